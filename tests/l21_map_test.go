package tests

import (
	"math"
	"slices"
	"testing"

	"loop.example/g01538/impl"
)

// pairsOf makes a list of pairs from keys and values.
func pairsOf(nums ...int) []impl.KV {
	var l []impl.KV
	for i := 0; i < len(nums); i += 2 {
		l = append(l, impl.KV{Key: nums[i], Val: nums[i+1]})
	}
	return l
}

func goodMaps() [][]impl.KV {
	full := make([]impl.KV, 100)
	for key := range full {
		full[key] = impl.KV{Key: key, Val: 65535 - key}
	}
	return [][]impl.KV{nil, pairsOf(0, 0), pairsOf(99, 65535), pairsOf(1, 5, 4, 6), pairsOf(0, 7, 3, 65535, 50, 0, 99, 1), full}
}

func badMaps() [][]impl.KV {
	bad := [][]impl.KV{
		pairsOf(1, 5, 1, 5), pairsOf(4, 6, 1, 5), pairsOf(1, 5, 4, 6, 4, 7), pairsOf(0, 1, 3, 1, 2, 1),
		pairsOf(100, 0), pairsOf(-1, 0), pairsOf(1, -1), pairsOf(1, 65536), pairsOf(1, 5, 100, 6), pairsOf(1, 5, 4, 65536), pairsOf(-1, 5, 4, 6),
	}
	for _, x := range []int{math.MinInt, math.MaxInt} {
		bad = append(bad, pairsOf(x, 1), pairsOf(1, x), pairsOf(1, 1, 2, x))
	}
	return bad
}

func TestMapConstants(t *testing.T) {
	if impl.CmGet != 1 || impl.CmPut != 2 || impl.CmDel != 3 || impl.CmAdd != 4 || impl.MaxCmds != 6 {
		t.Error("the constants are", impl.CmGet, impl.CmPut, impl.CmDel, impl.CmAdd, impl.MaxCmds)
	}
}

func TestCmdOk(t *testing.T) {
	nums := []int{math.MinInt, -1, 0, 1, 50, 99, 100, 65535, 65536, math.MaxInt}
	for _, kind := range append(manyInts(), -1, 0, 1, 2, 3, 4, 5, 6) {
		for _, key := range nums {
			for _, val := range nums {
				mostVal := 0
				if kind == 2 || kind == 4 {
					mostVal = 65535
				}
				want := kind >= 1 && kind <= 4 && key >= 0 && key <= 99 && val >= 0 && val <= mostVal
				if c := (impl.Cmd{Kind: kind, Key: key, Val: val}); impl.CmdOk(c) != want {
					t.Errorf("CmdOk of %+v = %t", c, !want)
				}
			}
		}
	}
}

func TestMapOk(t *testing.T) {
	for _, l := range goodMaps() {
		if !impl.MapOk(l) {
			t.Errorf("the map %v is refused", l)
		}
	}
	for _, l := range badMaps() {
		if impl.MapOk(l) {
			t.Errorf("the map %v is accepted", l)
		}
	}
}

func TestMapGet(t *testing.T) {
	l := pairsOf(4, 6, 1, 5, 4, 7, -3, 9, math.MaxInt, -1)
	for key, val := range map[int]int{4: 6, 1: 5, -3: 9, math.MaxInt: -1} {
		if got, ok := impl.MapGet(l, key); got != val || !ok {
			t.Errorf("MapGet of %d = %d, %t", key, got, ok)
		}
	}
	for _, key := range []int{math.MinInt, -1, 0, 2, 3, 5, 6, 7, 100} {
		if got, ok := impl.MapGet(l, key); got != 0 || ok {
			t.Errorf("MapGet of %d = %d, %t", key, got, ok)
		}
		if got, ok := impl.MapGet(nil, key); got != 0 || ok {
			t.Errorf("MapGet of %d in an empty map = %d, %t", key, got, ok)
		}
	}
}

func TestMapPutAndDel(t *testing.T) {
	for _, x := range []struct {
		l   []impl.KV
		key int
		put []impl.KV
		del []impl.KV
	}{
		{nil, 3, pairsOf(3, 9), nil},
		{pairsOf(1, 5, 4, 6), 0, pairsOf(0, 9, 1, 5, 4, 6), pairsOf(1, 5, 4, 6)},
		{pairsOf(1, 5, 4, 6), 1, pairsOf(1, 9, 4, 6), pairsOf(4, 6)},
		{pairsOf(1, 5, 4, 6), 3, pairsOf(1, 5, 3, 9, 4, 6), pairsOf(1, 5, 4, 6)},
		{pairsOf(1, 5, 4, 6), 4, pairsOf(1, 5, 4, 9), pairsOf(1, 5)},
		{pairsOf(1, 5, 4, 6), 5, pairsOf(1, 5, 4, 6, 5, 9), pairsOf(1, 5, 4, 6)},
		// Any list of pairs is accepted: the place is before the first greater key, and all pairs with the key are removed.
		{pairsOf(4, 6, 1, 5, 4, 7, 2, 8), 3, pairsOf(3, 9, 4, 6, 1, 5, 4, 7, 2, 8), pairsOf(4, 6, 1, 5, 4, 7, 2, 8)},
		{pairsOf(4, 6, 1, 5, 4, 7, 2, 8), 4, pairsOf(1, 5, 2, 8, 4, 9), pairsOf(1, 5, 2, 8)},
		{pairsOf(1, 1, 9, 1, 1, 2, 3, 1), 1, pairsOf(1, 9, 9, 1, 3, 1), pairsOf(9, 1, 3, 1)},
		{pairsOf(7, 1, 7, 2), 7, pairsOf(7, 9), nil},
		{pairsOf(-5, -6, 200, 70000), -1, pairsOf(-5, -6, -1, 9, 200, 70000), pairsOf(-5, -6, 200, 70000)},
		{pairsOf(math.MaxInt, 0), math.MaxInt, pairsOf(math.MaxInt, 9), nil},
		{pairsOf(math.MaxInt, 0), math.MinInt, pairsOf(math.MinInt, 9, math.MaxInt, 0), pairsOf(math.MaxInt, 0)},
	} {
		if got := impl.MapPut(x.l, x.key, 9); !slices.Equal(got, x.put) {
			t.Errorf("MapPut of %d into %v = %v", x.key, x.l, got)
		}
		if got := impl.MapDel(x.l, x.key); !slices.Equal(got, x.del) {
			t.Errorf("MapDel of %d from %v = %v", x.key, x.l, got)
		}
	}
	if got := impl.MapPut(nil, 1, math.MinInt); !slices.Equal(got, pairsOf(1, math.MinInt)) {
		t.Error("MapPut stores", got)
	}
}

// cmdWant executes a command on a Go map.
func cmdWant(m map[int]int, c impl.Cmd) impl.Res {
	val, is := m[c.Key]
	switch c.Kind {
	case impl.CmGet:
		return impl.Res{Is: is, Val: val}
	case impl.CmPut:
		m[c.Key] = c.Val
	case impl.CmDel:
		delete(m, c.Key)
	case impl.CmAdd:
		m[c.Key] = (val + c.Val) % 65536
		return impl.Res{Is: true, Val: m[c.Key]}
	}
	return impl.Res{}
}

func goMap(l []impl.KV) map[int]int {
	m := map[int]int{}
	for _, pair := range l {
		m[pair.Key] = pair.Val
	}
	return m
}

func pairsIn(m map[int]int) []impl.KV {
	var l []impl.KV
	for key := range 100 {
		if val, ok := m[key]; ok {
			l = append(l, impl.KV{Key: key, Val: val})
		}
	}
	return l
}

// cmdsFrom returns n valid commands that depend on x alone, on few keys.
func cmdsFrom(x int, n int) []impl.Cmd {
	var cmds []impl.Cmd
	for _, y := range spread(n+x%13, 1<<40)[x%13:] {
		y ^= x * 2654435761 % (1 << 38)
		c := impl.Cmd{Kind: 1 + y/7%4, Key: []int{0, 1, 2, 3, 50, 99}[y/28%6]}
		if c.Kind == impl.CmPut || c.Kind == impl.CmAdd {
			c.Val = y / 1000 % 65536
		}
		cmds = append(cmds, c)
	}
	return cmds
}

func TestCmdDo(t *testing.T) {
	for _, l := range goodMaps() {
		for _, c := range append(cmdsFrom(3, 300), impl.Cmd{Kind: impl.CmAdd, Key: 3}, impl.Cmd{Kind: impl.CmAdd, Key: 3, Val: 1}) {
			m := goMap(l)
			want := cmdWant(m, c)
			if got, r := impl.CmdDo(l, c); !slices.Equal(got, pairsIn(m)) || r != want {
				t.Fatalf("CmdDo of %+v on %v = %v, %+v", c, l, got, r)
			}
		}
		for _, c := range badCmds() {
			if got, r := impl.CmdDo(l, c); !slices.Equal(got, l) || r != (impl.Res{}) {
				t.Errorf("CmdDo of the invalid command %+v on %v = %v, %+v", c, l, got, r)
			}
		}
	}
	for _, l := range badMaps() {
		for kind := 1; kind <= 4; kind++ {
			if got, r := impl.CmdDo(l, impl.Cmd{Kind: kind, Key: 1}); !slices.Equal(got, l) || r != (impl.Res{}) {
				t.Errorf("CmdDo of the kind %d on the invalid map %v = %v, %+v", kind, l, got, r)
			}
		}
	}
}

func badCmds() []impl.Cmd {
	bad := []impl.Cmd{{}, {Kind: 5, Key: 1}, {Kind: -1, Key: 1}, {Kind: impl.CmGet, Key: 1, Val: 1}, {Kind: impl.CmDel, Key: 1, Val: 1}}
	for kind := 1; kind <= 4; kind++ {
		bad = append(bad, impl.Cmd{Kind: kind, Key: -1}, impl.Cmd{Kind: kind, Key: 100}, impl.Cmd{Kind: kind, Key: 1, Val: -1}, impl.Cmd{Kind: kind, Key: 1, Val: 65536})
	}
	return append(bad, impl.Cmd{Kind: math.MaxInt}, impl.Cmd{Kind: impl.CmPut, Key: math.MinInt, Val: 1}, impl.Cmd{Kind: impl.CmAdd, Key: 1, Val: math.MaxInt})
}

func TestAdditionThatWrapsAround(t *testing.T) {
	for _, x := range [][3]int{{65535, 1, 0}, {65535, 65535, 65534}, {65534, 1, 65535}, {1, 65535, 0}, {32768, 32768, 0}, {0, 65535, 65535}, {40000, 40000, 14464}} {
		for _, key := range []int{0, 7, 99} {
			l, r := impl.CmdDo(pairsOf(key, x[0]), impl.Cmd{Kind: impl.CmAdd, Key: key, Val: x[1]})
			if !slices.Equal(l, pairsOf(key, x[2])) || r != (impl.Res{Is: true, Val: x[2]}) {
				t.Errorf("%d plus %d is %v, %+v", x[0], x[1], l, r)
			}
		}
	}
	l, r := impl.CmdDo(nil, impl.Cmd{Kind: impl.CmAdd, Key: 5, Val: 65535})
	if !slices.Equal(l, pairsOf(5, 65535)) || r != (impl.Res{Is: true, Val: 65535}) {
		t.Errorf("the addition to no value is %v, %+v", l, r)
	}
	// A sum of 0 is a value, too.
	l, results := impl.CmdsDo(l, []impl.Cmd{{Kind: impl.CmAdd, Key: 5, Val: 1}, {Kind: impl.CmGet, Key: 5}})
	if !slices.Equal(l, pairsOf(5, 0)) || !slices.Equal(results, []impl.Res{{Is: true}, {Is: true}}) {
		t.Errorf("the sum is %v, %+v", l, results)
	}
}

// TestCommandsInTwoParts checks promise 24: the parts of a list of commands do together what the list does,
// and the map stays valid.
func TestCommandsInTwoParts(t *testing.T) {
	for i, start := range append(goodMaps(), badMaps()...) {
		for x := range 8 {
			cmds := cmdsFrom(10*i+x, 14)
			for k, c := range badCmds() {
				if k%5 == x%5 {
					cmds = slices.Insert(cmds, k%len(cmds), c)
				}
			}
			m, valid := goMap(start), impl.MapOk(start)
			var want []impl.Res
			for _, c := range cmds {
				r := impl.Res{}
				if valid && impl.CmdOk(c) {
					r = cmdWant(m, c)
				}
				want = append(want, r)
			}
			end, results := impl.CmdsDo(start, cmds)
			if !slices.Equal(results, want) || valid && !slices.Equal(end, pairsIn(m)) || !valid && !slices.Equal(end, start) {
				t.Fatalf("CmdsDo of %v on %v = %v, %v", cmds, start, end, results)
			}
			if impl.MapOk(end) != valid {
				t.Fatalf("CmdsDo of %v on %v gives the map %v", cmds, start, end)
			}
			for n := range len(cmds) + 1 {
				middle, first := impl.CmdsDo(start, cmds[:n])
				last, second := impl.CmdsDo(middle, cmds[n:])
				if !slices.Equal(last, end) || !slices.Equal(append(first, second...), results) {
					t.Fatalf("CmdsDo of %v in parts of %d and %d commands gives %v", cmds, n, len(cmds)-n, last)
				}
			}
		}
	}
}

func TestSameMap(t *testing.T) {
	all := append(append(goodMaps(), badMaps()...), pairsOf(1, 5, 4, 7), pairsOf(1, 5, 5, 6), pairsOf(2, 5, 4, 6), pairsOf(1, 5))
	for i, a := range all {
		for k, b := range all {
			if got := impl.SameMap(a, slices.Clone(b)); got != (i == k) {
				t.Errorf("SameMap of %v and %v = %t", a, b, got)
			}
		}
	}
	if !impl.SameMap(nil, []impl.KV{}) {
		t.Error("no pairs are not the same as none")
	}
}

func TestMapsArePure(t *testing.T) {
	maps := pool(append(append(goodMaps(), badMaps()...), pairsOf(4, 6, 1, 5, 4, 7, 2, 8))...)
	keys := pool(0, 1, 3, 4, 99, 100)
	pureOverAll(t, impl.MapOk, maps)
	pureOverAll(t, impl.MapGet, maps, keys)
	pureOverAll(t, impl.MapPut, maps, keys, pool(7))
	pureOverAll(t, impl.MapDel, maps, keys)
	pureOverAll(t, impl.CmdDo, maps, pool(append(cmdsFrom(1, 20), badCmds()[0])...))
	pureOverAll(t, impl.CmdsDo, maps, pool(nil, cmdsFrom(2, 1), cmdsFrom(3, 9), badCmds()))
	pureOverAll(t, impl.SameMap, maps, maps)
}
