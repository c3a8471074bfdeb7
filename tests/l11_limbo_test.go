package tests

import (
	"math"
	"slices"
	"testing"

	"loop.example/g01538/impl"
)

// limboOf returns lists with these rows, each a handle and an epoch.
func limboOf(lists ...[][2]int) []impl.LList {
	l := make([]impl.LList, len(lists))
	for w, rows := range lists {
		for _, row := range rows {
			l[w].Rows = append(l[w].Rows, impl.LRow{Handle: row[0], Epoch: row[1]})
		}
	}
	return l
}

func copyOfLimbo(l []impl.LList) []impl.LList {
	next := make([]impl.LList, len(l))
	for w, list := range l {
		next[w].Rows = slices.Clone(list.Rows)
	}
	return next
}

// someLimbo returns valid lists; 33 is slot 1, 70 is slot 6, 215 is slot 23.
func someLimbo() []impl.LList {
	return limboOf([][2]int{{33, 4}, {70, 6}, {40, 4}, {41, 5}}, nil, [][2]int{{215, 100000}, {32, 0}})
}

// fullLimbo returns lists with a row for each slot.
func fullLimbo() []impl.LList {
	l := impl.LimboNew()
	for slot := range impl.SlotMax {
		l[slot%2].Rows = append(l[slot%2].Rows, impl.LRow{Handle: 64 + slot, Epoch: slot})
	}
	return l
}

func badLimbos() [][]impl.LList {
	good := someLimbo()
	bad := [][]impl.LList{nil, {}, good[:1], good[:2], append(copyOfLimbo(good), impl.LList{})}
	for _, row := range []impl.LRow{
		{}, {Handle: 31, Epoch: 1}, {Handle: 56, Epoch: 1}, {Handle: 224, Epoch: 1}, {Handle: -33, Epoch: 1}, {Handle: math.MinInt}, {Handle: math.MaxInt},
		{Handle: 34, Epoch: -1}, {Handle: 34, Epoch: 100001}, {Handle: 34, Epoch: math.MinInt}, {Handle: 34, Epoch: math.MaxInt},
		{Handle: 33, Epoch: 4}, {Handle: 65, Epoch: 9}, {Handle: 55, Epoch: 0}, {Handle: 32, Epoch: 0},
	} {
		for w := range impl.Workers {
			for _, at := range []int{0, len(good[w].Rows)} {
				l := copyOfLimbo(good)
				l[w].Rows = slices.Insert(l[w].Rows, at, row)
				bad = append(bad, l)
			}
		}
	}
	full := fullLimbo()
	full[2].Rows = append(full[2].Rows, impl.LRow{Handle: 96, Epoch: 1})
	return append(bad, full)
}

func TestLimboConstants(t *testing.T) {
	if impl.MaxLimbo != 24 {
		t.Error("MaxLimbo is", impl.MaxLimbo)
	}
}

func TestLimboNew(t *testing.T) {
	l := impl.LimboNew()
	if len(l) != 3 || impl.LimboSize(l) != 0 || !impl.LimboOk(l) {
		t.Error("LimboNew is", l)
	}
}

func TestLimboOk(t *testing.T) {
	for _, l := range [][]impl.LList{someLimbo(), fullLimbo(), limboOf(nil, nil, [][2]int{{32, 100000}})} {
		if !impl.LimboOk(l) {
			t.Error("valid lists are refused:", l)
		}
	}
	for _, l := range badLimbos() {
		if impl.LimboOk(l) {
			t.Error("invalid lists are accepted:", l)
		}
	}
}

func TestRetireTo(t *testing.T) {
	for w := range impl.Workers {
		for _, row := range []impl.LRow{{Handle: 34, Epoch: 0}, {Handle: 216 - 32, Epoch: 0}, {Handle: 194, Epoch: 100000}, {Handle: 36, Epoch: 3}} {
			want, ok := someLimbo(), impl.HandleOk(row.Handle)
			if ok {
				want[w].Rows = append(want[w].Rows, row)
			}
			if got, is := impl.RetireTo(someLimbo(), w, row.Handle, row.Epoch); is != ok || !impl.SameLimbo(got, want) {
				t.Errorf("RetireTo of worker %d and %v = %v, %t", w, row, got, is)
			}
		}
	}
}

func refusesRow(t *testing.T, l []impl.LList, w int, h int, e int) {
	t.Helper()
	if got, ok := impl.RetireTo(l, w, h, e); ok || !impl.SameLimbo(got, l) {
		t.Errorf("RetireTo of worker %d, the handle %d and epoch %d to %v = %v, %t", w, h, e, l, got, ok)
	}
}

func TestRetireToRefuses(t *testing.T) {
	for _, w := range []int{math.MinInt, -1, 3, math.MaxInt} {
		refusesRow(t, someLimbo(), w, 34, 1)
	}
	for w := range impl.Workers {
		for _, h := range []int{math.MinInt, -34, -1, 0, 1, 31, 56, 63, 216, 224, math.MaxInt} {
			refusesRow(t, someLimbo(), w, h, 1)
		}
		for _, e := range []int{math.MinInt, -1, 100001, math.MaxInt} {
			refusesRow(t, someLimbo(), w, 34, e)
		}
		for h := range 250 {
			refusesRow(t, fullLimbo(), w, h, 1)
		}
	}
	for _, l := range badLimbos() {
		for w := range impl.Workers {
			refusesRow(t, l, w, 34, 1)
		}
	}
}

// A slot is retired once, whichever worker does it, and whatever the generation.
func TestSlotRetiredTwice(t *testing.T) {
	for first := range impl.Workers {
		for gen := 1; gen <= impl.MaxGen; gen++ {
			l, ok := impl.RetireTo(impl.LimboNew(), first, impl.HandleOf(9, gen), 3)
			if !ok {
				t.Fatal("the slot is refused")
			}
			for second := range impl.Workers {
				for other := 1; other <= impl.MaxGen; other++ {
					refusesRow(t, l, second, impl.HandleOf(9, other), 3)
					refusesRow(t, l, second, impl.HandleOf(9, other), 4)
				}
				if _, ok := impl.RetireTo(l, second, impl.HandleOf(8, gen), 3); !ok {
					t.Error("another slot is refused")
				}
			}
			l, _ = impl.DropRow(l, first, 0)
			if _, ok := impl.RetireTo(l, 2-first, impl.HandleOf(9, gen), 3); !ok {
				t.Error("a slot that is in limbo no more is refused")
			}
		}
	}
}

func TestDropRow(t *testing.T) {
	for w := -1; w <= impl.Workers; w++ {
		for i := -1; i <= 5; i++ {
			want, ok := someLimbo(), false
			if isWorker(w) && i >= 0 && i < len(want[w].Rows) {
				want[w].Rows = append(want[w].Rows[:i:i], want[w].Rows[i+1:]...)
				ok = true
			}
			if got, is := impl.DropRow(someLimbo(), w, i); is != ok || !impl.SameLimbo(got, want) {
				t.Errorf("DropRow of worker %d and row %d = %v, %t", w, i, got, is)
			}
		}
	}
	refuses := func(l []impl.LList, w int, i int) {
		t.Helper()
		if got, ok := impl.DropRow(l, w, i); ok || !impl.SameLimbo(got, l) {
			t.Errorf("DropRow of worker %d and row %d from %v = %v, %t", w, i, l, got, ok)
		}
	}
	for _, x := range []int{math.MinInt, -1, 4, math.MaxInt} {
		refuses(someLimbo(), x, 0)
		refuses(someLimbo(), 0, x)
	}
	for _, l := range badLimbos() {
		refuses(l, 0, 0)
	}
}

func TestRipe(t *testing.T) {
	for _, h := range []int{0, 33, -5} {
		for row := -3; row <= 6; row++ {
			for e := -4; e <= 8; e++ {
				if got := impl.Ripe(impl.LRow{Handle: h, Epoch: row}, e); got != (e >= 2 && row+2 <= e) {
					t.Errorf("Ripe of a row of epoch %d at %d is %t", row, e, got)
				}
			}
		}
	}
	for _, x := range []struct {
		row, e int
		want   bool
	}{
		{99998, 100000, true}, {99999, 100000, false}, {math.MinInt, math.MinInt, false}, {math.MinInt, 1, false}, {math.MinInt, 2, true},
		{math.MaxInt, math.MaxInt, false}, {math.MaxInt - 2, math.MaxInt, true}, {math.MaxInt - 1, math.MaxInt, false}, {math.MaxInt, math.MinInt, false},
		{-2, math.MinInt, false}, {0, math.MinInt + 1, false},
	} {
		if got := impl.Ripe(impl.LRow{Epoch: x.row}, x.e); got != x.want {
			t.Errorf("Ripe of a row of epoch %d at %d is %t", x.row, x.e, got)
		}
	}
}

func TestBucket(t *testing.T) {
	for _, x := range []struct {
		w, k int
		want []int
	}{
		{0, 0, []int{70}}, {0, 1, []int{33, 40}}, {0, 2, []int{41}}, {1, 0, nil}, {1, 1, nil}, {1, 2, nil},
		{2, 0, []int{32}}, {2, 1, []int{215}}, {2, 2, nil}, {0, 3, nil}, {0, 4, nil}, {0, -1, nil}, {0, -2, nil}, {0, math.MinInt, nil}, {0, math.MaxInt, nil},
		{-1, 0, nil}, {3, 0, nil}, {math.MinInt, 0, nil}, {math.MaxInt, 1, nil},
	} {
		if got := impl.Bucket(someLimbo(), x.w, x.k); !slices.Equal(got, x.want) {
			t.Errorf("Bucket %d of worker %d is %v, want %v", x.k, x.w, got, x.want)
		}
	}
	for _, l := range badLimbos() {
		for w := range impl.Workers {
			for k := range 3 {
				if got := impl.Bucket(l, w, k); len(got) != 0 {
					t.Errorf("Bucket %d of the invalid lists %v is %v", k, l, got)
				}
			}
		}
	}
}

func TestInLimboAndLimboSize(t *testing.T) {
	check := func(l []impl.LList, size int, slots ...int) {
		t.Helper()
		if got := impl.LimboSize(l); got != size {
			t.Errorf("the size of %v is %d", l, got)
		}
		for slot := -3; slot <= 40; slot++ {
			if got := impl.InLimbo(l, slot); got != slices.Contains(slots, slot) {
				t.Errorf("slot %d in %v: %t", slot, l, got)
			}
		}
		for _, slot := range manyInts() {
			if !slices.Contains(slots, slot) && impl.InLimbo(l, slot) {
				t.Errorf("slot %d is in %v", slot, l)
			}
		}
	}
	check(nil, 0)
	check(impl.LimboNew(), 0)
	check(someLimbo(), 6, 1, 6, 8, 9, 23, 0)
	// What is no handle is in limbo for no slot, but is a row.
	odd := [][2]int{{0, 0}, {1, 1}, {31, 1}, {56, 2}, {-1, 3}, {-33, 0}, {224, 0}, {225, 0}, {math.MaxInt, 0}, {math.MinInt, 0}}
	check(limboOf(odd), 10)
	check(limboOf(nil, odd, odd), 20)
	// Invalid lists count as they are.
	check(limboOf([][2]int{{34, -1}, {66, 200000}}, nil, nil, [][2]int{{35, 0}, {35, 0}}), 4, 2, 3)
}

func TestSameLimbo(t *testing.T) {
	if !impl.SameLimbo(someLimbo(), someLimbo()) || !impl.SameLimbo(nil, []impl.LList{}) {
		t.Error("equal lists differ")
	}
	others := append(badLimbos(), impl.LimboNew(), fullLimbo())
	for w, list := range someLimbo() {
		for i := range list.Rows {
			handle, epoch := someLimbo(), someLimbo()
			handle[w].Rows[i].Handle += 32
			epoch[w].Rows[i].Epoch++
			others = append(others, handle, epoch)
		}
	}
	order, moved := someLimbo(), someLimbo()
	order[2].Rows[0], order[2].Rows[1] = order[2].Rows[1], order[2].Rows[0]
	moved[1], moved[2] = moved[2], moved[1]
	for _, other := range append(others, order, moved) {
		if impl.SameLimbo(other, someLimbo()) || impl.SameLimbo(someLimbo(), other) {
			t.Error("other lists are the same:", other)
		}
	}
}

// TestLimboWalk retires and drops in a fixed disorder and follows which rows each list must have (promise 12).
func TestLimboWalk(t *testing.T) {
	l, model := impl.LimboNew(), impl.LimboNew()
	for step, x := range spread(8000, 1<<40) {
		w := x % 3
		h, e := 32*(x/3%7)+x/21%25, x/1000%9
		if x/10000%2 == 0 {
			want := impl.HandleOk(h) && !slotIsIn(model, h%32)
			got, ok := impl.RetireTo(l, w, h, e)
			if ok != want {
				t.Fatalf("step %d: RetireTo of %d is %t", step, h, ok)
			}
			if want {
				model[w].Rows = append(model[w].Rows, impl.LRow{Handle: h, Epoch: e})
			}
			l = got
		} else {
			i := x / 21 % 6
			got, ok := impl.DropRow(l, w, i)
			if ok != (i < len(model[w].Rows)) {
				t.Fatalf("step %d: DropRow of %d is %t", step, i, ok)
			}
			if ok {
				model[w].Rows = append(slices.Clone(model[w].Rows[:i]), model[w].Rows[i+1:]...)
			}
			l = got
		}
		if !impl.SameLimbo(l, model) || !impl.LimboOk(l) {
			t.Fatalf("step %d: the lists are %v, want %v", step, l, model)
		}
		checkBuckets(t, l)
	}
}

func slotIsIn(l []impl.LList, slot int) bool {
	for _, list := range l {
		for _, row := range list.Rows {
			if row.Handle%32 == slot {
				return true
			}
		}
	}
	return false
}

// checkBuckets compares the three buckets of each worker with its rows.
func checkBuckets(t *testing.T, l []impl.LList) {
	t.Helper()
	for slot := range impl.SlotMax {
		if impl.InLimbo(l, slot) != slotIsIn(l, slot) {
			t.Fatalf("slot %d in %v: %t", slot, l, impl.InLimbo(l, slot))
		}
	}
	for w, list := range l {
		var want, got []int
		for _, row := range list.Rows {
			want = append(want, row.Handle)
		}
		for k := range 3 {
			got = append(got, impl.Bucket(l, w, k)...)
		}
		slices.Sort(want)
		slices.Sort(got)
		if !slices.Equal(got, want) {
			t.Fatalf("the buckets of worker %d contain %v, want %v", w, got, want)
		}
	}
}

func TestLimbosArePure(t *testing.T) {
	small := limboOf([][2]int{{33, 1}}, [][2]int{{34, 2}}, [][2]int{{35, 3}})
	all := pool(append(badLimbos(), impl.LimboNew(), someLimbo(), fullLimbo(), small)...)
	few := pool(nil, impl.LimboNew(), someLimbo(), limboOf(nil, nil))
	workers, slots := pool(-1, 0, 1, 2, 3), pool(-1, 0, 1, 23, 24)
	pure(t, impl.LimboNew)
	pureOverAll(t, impl.LimboOk, all)
	pureOverAll(t, impl.RetireTo, all, workers, pool(0, 33, 34), pool(-1, 0, 7))
	pureOverAll(t, impl.DropRow, all, workers, pool(-1, 0, 1, 3, 4))
	pureOverAll(t, impl.Bucket, all, workers, pool(-1, 0, 1, 2))
	pureOverAll(t, impl.InLimbo, all, slots)
	pureOverAll(t, impl.LimboSize, all)
	pureOverAll(t, impl.SameLimbo, few, few)
}
