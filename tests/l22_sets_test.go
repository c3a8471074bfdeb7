package tests

import (
	"math"
	"slices"
	"testing"

	"loop.example/g01538/impl"
)

func puts(key int, val int) impl.Write { return impl.Write{Key: key, Val: val} }

func dels(key int) impl.Write { return impl.Write{Key: key, Del: true} }

// someWrites returns lists of writes, also such as no transaction has.
func someWrites() [][]impl.Write {
	return [][]impl.Write{
		nil,
		{puts(3, 7)},
		{dels(4)},
		{dels(2), puts(4, 1)},
		{puts(0, 1), puts(2, 65535), dels(5), puts(98, 0), dels(99)},
		{puts(4, 1), puts(2, 3), dels(4), puts(1, 9), puts(4, 5)},
		{puts(7, 1), puts(7, 2)},
		{puts(-1, 1), puts(100, 1), {Key: math.MinInt, Del: true, Val: 5}, puts(math.MaxInt, -8), dels(3)},
		{{Key: 6, Del: true, Val: 9}, {Key: 6, Val: -9}},
	}
}

func TestSeenPut(t *testing.T) {
	l := []impl.Seen{{Bkt: 1, Ver: 4}, {Bkt: 0, Ver: 9}, {Bkt: 1, Ver: 5}, {Bkt: -3, Ver: -8}}
	for _, x := range []struct {
		b, v int
		ok   bool
	}{{1, 4, true}, {1, 5, false}, {1, 0, false}, {0, 9, true}, {0, 4, false}, {-3, -8, true}, {-3, 8, false}} {
		if got, ok := impl.SeenPut(l, x.b, x.v); !slices.Equal(got, l) || ok != x.ok {
			t.Errorf("SeenPut of %+v = %v, %t", x, got, ok)
		}
	}
	for _, b := range []int{math.MinInt, -1, 2, 4, math.MaxInt} {
		for _, v := range []int{math.MinInt, 0, 4, math.MaxInt} {
			want := append(slices.Clone(l), impl.Seen{Bkt: b, Ver: v})
			if got, ok := impl.SeenPut(l, b, v); !slices.Equal(got, want) || !ok {
				t.Errorf("SeenPut of %d, %d = %v, %t", b, v, got, ok)
			}
			if got, ok := impl.SeenPut(nil, b, v); !slices.Equal(got, want[4:]) || !ok {
				t.Errorf("SeenPut of %d, %d into an empty list = %v, %t", b, v, got, ok)
			}
		}
	}
}

func TestWritePut(t *testing.T) {
	for _, x := range []struct{ l, want []impl.Write }{
		{nil, []impl.Write{puts(4, 8)}},
		{[]impl.Write{dels(4)}, []impl.Write{puts(4, 8)}},
		{[]impl.Write{puts(3, 1)}, []impl.Write{puts(3, 1), puts(4, 8)}},
		{[]impl.Write{dels(5)}, []impl.Write{puts(4, 8), dels(5)}},
		{[]impl.Write{puts(1, 1), puts(4, 2), puts(6, 3)}, []impl.Write{puts(1, 1), puts(4, 8), puts(6, 3)}},
		// Of any list: the place is before the first greater key.
		{[]impl.Write{puts(4, 1), puts(7, 1), puts(4, 2), dels(3), puts(9, 3), dels(4)}, []impl.Write{puts(4, 8), puts(7, 1), dels(3), puts(9, 3)}},
		{[]impl.Write{puts(2, 1), puts(math.MinInt, 1), puts(math.MaxInt, 2)}, []impl.Write{puts(2, 1), puts(math.MinInt, 1), puts(4, 8), puts(math.MaxInt, 2)}},
	} {
		if got := impl.WritePut(x.l, puts(4, 8)); !slices.Equal(got, x.want) {
			t.Errorf("WritePut into %v = %v", x.l, got)
		}
		want := slices.Clone(x.want)
		want[slices.Index(want, puts(4, 8))] = impl.Write{Key: 4, Del: true, Val: -7}
		if got := impl.WritePut(x.l, impl.Write{Key: 4, Del: true, Val: -7}); !slices.Equal(got, want) {
			t.Errorf("WritePut of a deletion into %v = %v", x.l, got)
		}
	}
}

func TestKeyWrittenTwice(t *testing.T) {
	for _, first := range []impl.Write{puts(4, 1), dels(4)} {
		for _, second := range []impl.Write{puts(4, 2), puts(4, 1), dels(4)} {
			l := impl.WritePut(impl.WritePut([]impl.Write{puts(2, 5), dels(7)}, first), second)
			if !slices.Equal(l, []impl.Write{puts(2, 5), second, dels(7)}) {
				t.Errorf("%+v after %+v gives %v", second, first, l)
			}
			if w, ok := impl.WriteOf(l, 4); !ok || w != second {
				t.Errorf("the write is %+v, want %+v", w, second)
			}
		}
	}
}

func TestWriteOf(t *testing.T) {
	for _, l := range someWrites() {
		for _, key := range []int{math.MinInt, -1, 0, 1, 2, 3, 4, 5, 6, 7, 98, 99, 100, math.MaxInt} {
			want := impl.Write{}
			at := slices.IndexFunc(l, func(w impl.Write) bool { return w.Key == key })
			if at >= 0 {
				want = l[at]
			}
			if got, ok := impl.WriteOf(l, key); got != want || ok != (at >= 0) {
				t.Errorf("WriteOf %d in %v = %+v, %t", key, l, got, ok)
			}
		}
	}
}

func TestTouched(t *testing.T) {
	for i, want := range [][]int{{}, {1}, {0}, {0}, {0, 1}, {0, 1}, {1}, {1}, {0}} {
		if got := impl.Touched(someWrites()[i]); !slices.Equal(got, want) {
			t.Errorf("Touched of %v = %v", someWrites()[i], got)
		}
	}
	for _, key := range []int{-2, -1, 100, 101, math.MinInt, math.MaxInt} {
		if got := impl.Touched([]impl.Write{puts(key, 1), dels(key)}); len(got) != 0 {
			t.Errorf("the key %d touches %v", key, got)
		}
	}
	if got := impl.Touched([]impl.Write{puts(5, 1), dels(2)}); !slices.Equal(got, []int{0, 1}) {
		t.Error("the buckets are not in ascending order:", got)
	}
}

func TestPuts(t *testing.T) {
	for i, want := range [][]int{{0}, {0, 1}, {0, 0}, {0, 0, 1}, {0, 1, 2, 2, 3, 3}, {0, 1, 2, 2, 3, 4}, {0, 1, 2}, {0, 1, 2, 2, 3, 3}, {0, 0, 1}} {
		l := someWrites()[i]
		for n, puts := range want {
			if got := impl.Puts(l, n); got != puts {
				t.Errorf("Puts of %d of %v = %d", n, l, got)
			}
		}
		for _, n := range []int{len(l) + 1, 100, math.MaxInt} {
			if got := impl.Puts(l, n); got != want[len(l)] {
				t.Errorf("Puts of %d of %v = %d", n, l, got)
			}
		}
		for _, n := range []int{-1, -5, math.MinInt} {
			if got := impl.Puts(l, n); got != 0 {
				t.Errorf("Puts of %d of %v = %d", n, l, got)
			}
		}
	}
}

func TestApplyWrites(t *testing.T) {
	lists := append(goodMaps(), pairsOf(4, 6, 1, 5, 4, 7, 2, 8), pairsOf(-1, 1, 3, 9))
	for _, l := range lists {
		for _, w := range someWrites() {
			want := l
			for _, x := range w {
				if x.Del {
					want = impl.MapDel(want, x.Key)
				} else {
					want = impl.MapPut(want, x.Key, x.Val)
				}
			}
			if got := impl.ApplyWrites(l, w); !slices.Equal(got, want) {
				t.Errorf("ApplyWrites of %v to %v = %v", w, l, got)
			}
		}
	}
	// The order matters if a key occurs twice.
	for _, x := range []struct {
		w    []impl.Write
		want []impl.KV
	}{
		{[]impl.Write{puts(4, 1), dels(4)}, pairsOf(1, 5)},
		{[]impl.Write{dels(4), puts(4, 1)}, pairsOf(1, 5, 4, 1)},
		{[]impl.Write{puts(4, 1), puts(4, 2)}, pairsOf(1, 5, 4, 2)},
		{[]impl.Write{{Key: 1, Del: true, Val: 7}, puts(0, 3)}, pairsOf(0, 3, 4, 6)},
	} {
		if got := impl.ApplyWrites(pairsOf(1, 5, 4, 6), x.w); !slices.Equal(got, x.want) {
			t.Errorf("ApplyWrites of %v = %v", x.w, got)
		}
	}
}

// TestRecordedWrites checks promise 24: the writes that are recorded for commands have their effect on every map,
// and what a command reads is in the writes, if its key is there.
func TestRecordedWrites(t *testing.T) {
	for i, start := range goodMaps() {
		for x := range 40 {
			var writes []impl.Write
			l := start
			for _, c := range cmdsFrom(40*i+x, 10) {
				val, is := impl.MapGet(start, c.Key)
				if w, ok := impl.WriteOf(writes, c.Key); ok {
					val, is = w.Val, !w.Del
				}
				next, r := impl.CmdDo(l, c)
				switch c.Kind {
				case impl.CmGet:
					if r.Is != is || is && r.Val != val {
						t.Fatalf("%+v reads %+v, and the writes are %v", c, r, writes)
					}
				case impl.CmPut:
					writes = impl.WritePut(writes, puts(c.Key, c.Val))
				case impl.CmDel:
					writes = impl.WritePut(writes, dels(c.Key))
				case impl.CmAdd:
					writes = impl.WritePut(writes, puts(c.Key, r.Val))
				}
				l = next
				if got := impl.ApplyWrites(start, writes); !impl.SameMap(got, l) || !impl.MapOk(got) {
					t.Fatalf("the writes %v applied to %v give %v, want %v", writes, start, got, l)
				}
				if !slices.IsSortedFunc(writes, func(a, b impl.Write) int { return a.Key - b.Key }) {
					t.Fatal("the writes are not in order:", writes)
				}
			}
		}
	}
}

func TestSetsArePure(t *testing.T) {
	writes := pool(someWrites()...)
	seen := pool(nil, []impl.Seen{}, []impl.Seen{{Bkt: 1, Ver: 4}, {Bkt: 0, Ver: 9}})
	keys := pool(0, 4, 7, 50)
	pureOverAll(t, impl.SeenPut, seen, pool(0, 1, 2), pool(4, 5))
	pureOverAll(t, impl.WritePut, writes, pool(puts(4, 8), dels(7), puts(0, 0), puts(100, 1)))
	pureOverAll(t, impl.WriteOf, writes, keys)
	pureOverAll(t, impl.Touched, writes)
	pureOverAll(t, impl.Puts, writes, pool(-1, 0, 2, 9))
	pureOverAll(t, impl.ApplyWrites, pool(goodMaps()...), writes)
}
