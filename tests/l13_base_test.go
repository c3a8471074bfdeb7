package tests

import (
	"math"
	"slices"
	"testing"

	"loop.example/g01538/impl"
)

func copyOfBase(b impl.Base) impl.Base {
	return impl.Base{Mem: copyOfMem(b.Mem), Clock: copyOfClock(b.Clock), Limbo: copyOfLimbo(b.Limbo), Haz: slices.Clone(b.Haz)}
}

// someBase returns a base with slots in every state: the used slots 1, 3 and 5, the slots 0, 8 and 4 in limbo, the free slot 2
// and slot 12, which is used up.
func someBase(t *testing.T) impl.Base {
	t.Helper()
	b := impl.Base{
		Mem:   someMem(t),
		Clock: clockOf(5, impl.Pin{On: true, Epoch: 4, Seen: 1}, impl.Pin{}, impl.Pin{On: true, Epoch: 3, Marked: true}),
		Limbo: limboOf([][2]int{{104, 5}}, nil, [][2]int{{64, 0}, {36, 3}}),
		Haz:   []int{33, 0, 64},
	}
	if !impl.BaseOk(b) {
		t.Fatal("a valid base is refused:", b)
	}
	return b
}

// baseWant is the validity of a base as the document describes it.
func baseWant(b impl.Base) bool {
	if !impl.MemOk(b.Mem) || !impl.ClockOk(b.Clock) || !impl.LimboOk(b.Limbo) || !impl.HazOk(b.Haz) {
		return false
	}
	ok := true
	for w := range impl.Workers {
		for _, row := range b.Limbo[w].Rows {
			ok = ok && impl.Valid(b.Mem, row.Handle) && row.Epoch <= b.Clock.Epoch
		}
	}
	return ok
}

// badBases returns bases of which one part is invalid, or whose limbo lists do not fit the memory or the clock.
func badBases(t *testing.T) []impl.Base {
	var bad []impl.Base
	with := func(change func(b *impl.Base)) {
		b := copyOfBase(someBase(t))
		change(&b)
		bad = append(bad, b)
	}
	for _, m := range badMems(t) {
		with(func(b *impl.Base) { b.Mem, b.Limbo = m, impl.LimboNew() })
	}
	for _, c := range everyNth(clocks(), 5) {
		if !clockWant(c) {
			with(func(b *impl.Base) { b.Clock, b.Limbo = c, impl.LimboNew() })
		}
	}
	for _, l := range badLimbos() {
		with(func(b *impl.Base) { b.Limbo = l })
	}
	for _, z := range badHazards() {
		with(func(b *impl.Base) { b.Haz = z })
	}
	// The handles of a free slot, of one that is used up, of one that is not carved, and of another generation.
	for _, row := range [][2]int{{34, 1}, {66, 1}, {194, 1}, {44, 1}, {204, 1}, {38, 1}, {48, 1}, {65, 1}, {67, 1}, {37, 6}, {33, 100000}} {
		for w := range impl.Workers {
			with(func(b *impl.Base) {
				b.Limbo[w].Rows = append(b.Limbo[w].Rows, impl.LRow{Handle: row[0], Epoch: row[1]})
			})
		}
	}
	with(func(b *impl.Base) { b.Mem = impl.MemNew() })
	with(func(b *impl.Base) { b.Clock.Epoch, b.Clock.Pins[0] = 4, impl.Pin{} })
	return append(bad, impl.Base{}, impl.Base{Mem: impl.MemNew(), Clock: impl.ClockNew(), Limbo: impl.LimboNew()})
}

func TestBaseConstants(t *testing.T) {
	if impl.WhNone != 0 || impl.WhFree != 1 || impl.WhGone != 2 || impl.WhLimbo != 3 || impl.WhUsed != 4 {
		t.Error("the states are", impl.WhNone, impl.WhFree, impl.WhGone, impl.WhLimbo, impl.WhUsed)
	}
}

func TestBaseNew(t *testing.T) {
	b := impl.BaseNew()
	if !impl.BaseOk(b) || !impl.SameMem(b.Mem, impl.MemNew()) || !impl.SameClock(b.Clock, impl.ClockNew()) || !impl.SameLimbo(b.Limbo, impl.LimboNew()) || !slices.Equal(b.Haz, []int{0, 0, 0}) {
		t.Error("BaseNew is", b)
	}
	if got := impl.Tally(b); !slices.Equal(got, []int{24, 0, 0, 0, 0}) {
		t.Error("the tally is", got)
	}
	if got := impl.Ranges(b); len(got) != 0 {
		t.Error("the ranges are", got)
	}
}

func TestBaseOk(t *testing.T) {
	for i, b := range badBases(t) {
		if baseWant(b) || impl.BaseOk(b) {
			t.Errorf("invalid base %d is accepted: %v", i, b)
		}
	}
	// A hazard pointer may hold a handle that is not Valid, and a row may have the present epoch.
	b := someBase(t)
	b.Haz = []int{32, 215, 48}
	b.Limbo[1].Rows = []impl.LRow{{Handle: 37, Epoch: 5}}
	if !impl.BaseOk(b) {
		t.Error("a valid base is refused")
	}
}

func TestInvalidBaseGetsFixedResults(t *testing.T) {
	for i, b := range badBases(t) {
		for _, slot := range []int{-1, 0, 1, 2, 12, 23} {
			if got := impl.Where(b, slot); got != impl.WhNone {
				t.Errorf("base %d: slot %d is %d", i, slot, got)
			}
		}
		if got := impl.Tally(b); !slices.Equal(got, make([]int, 5)) {
			t.Errorf("base %d: the tally is %v", i, got)
		}
		if got := impl.Ranges(b); len(got) != 0 {
			t.Errorf("base %d: the ranges are %v", i, got)
		}
	}
}

func TestWhereAndTally(t *testing.T) {
	b := someBase(t)
	want := map[int]int{
		0: impl.WhLimbo, 1: impl.WhUsed, 2: impl.WhFree, 3: impl.WhUsed, 4: impl.WhLimbo, 5: impl.WhUsed, 8: impl.WhLimbo, 12: impl.WhGone,
	}
	for slot := -3; slot <= 27; slot++ {
		if got := impl.Where(b, slot); got != want[slot] {
			t.Errorf("slot %d is %d, want %d", slot, got, want[slot])
		}
	}
	for _, slot := range []int{math.MinInt, -1, 24, math.MaxInt} {
		if got := impl.Where(b, slot); got != impl.WhNone {
			t.Errorf("slot %d is %d", slot, got)
		}
	}
	if got := impl.Tally(b); !slices.Equal(got, []int{16, 1, 1, 3, 3}) {
		t.Error("the tally is", got)
	}
}

// A slot that is both in limbo and free makes the base invalid, so that it is counted in no state.
func TestSlotInLimboAndFree(t *testing.T) {
	for gen := 1; gen <= impl.MaxGen; gen++ {
		for w := range impl.Workers {
			b := someBase(t)
			b.Limbo[w].Rows = append(b.Limbo[w].Rows, impl.LRow{Handle: impl.HandleOf(2, gen), Epoch: 1})
			if !impl.MemOk(b.Mem) || !impl.LimboOk(b.Limbo) || impl.BaseOk(b) {
				t.Fatal("the base is accepted")
			}
			if impl.Where(b, 2) != impl.WhNone || impl.Where(b, 1) != impl.WhNone || !slices.Equal(impl.Tally(b), make([]int, 5)) || len(impl.Ranges(b)) != 0 {
				t.Error("the base has states", impl.Tally(b))
			}
		}
	}
	b := someBase(t)
	b.Mem = mustFree(t, b.Mem, 1, 64)
	if impl.BaseOk(b) || impl.Where(b, 0) != impl.WhNone {
		t.Error("a slot in limbo may be freed")
	}
	b.Limbo, _ = impl.DropRow(b.Limbo, 2, 0)
	if !impl.BaseOk(b) || impl.Where(b, 0) != impl.WhFree {
		t.Error("the slot is free, but", impl.Where(b, 0))
	}
}

func TestRanges(t *testing.T) {
	want := []impl.Span{{From: 12, To: 20}, {From: 24, To: 32}, {From: 48, To: 56}, {From: 76, To: 92}, {From: 96, To: 112}, {From: 140, To: 180}}
	if got := impl.Ranges(someBase(t)); !slices.Equal(got, want) || !impl.Disjoint(got) {
		t.Error("the ranges are", got)
	}
}

func TestDisjoint(t *testing.T) {
	for _, x := range []struct {
		l    [][2]int
		want bool
	}{
		{nil, true},
		{[][2]int{{}}, true},
		{[][2]int{{}, {}, {}}, true},
		{[][2]int{{0, 384}}, true},
		{[][2]int{{0, 385}}, false},
		{[][2]int{{-1, 5}}, false},
		{[][2]int{{math.MinInt, 5}}, false},
		{[][2]int{{0, math.MaxInt}}, false},
		{[][2]int{{-1, -1}}, false},
		{[][2]int{{385, 385}}, false},
		{[][2]int{{500, 385}}, false},
		{[][2]int{{384, 384}}, true},
		{[][2]int{{500, 384}}, true},
		{[][2]int{{500, -3}}, true},
		{[][2]int{{0, 5}, {5, 6}}, true},
		{[][2]int{{5, 6}, {0, 5}}, true},
		{[][2]int{{0, 5}, {4, 6}}, false},
		{[][2]int{{4, 6}, {0, 5}}, false},
		{[][2]int{{4, 6}, {4, 6}}, false},
		{[][2]int{{4, 4}, {4, 6}, {5, 5}}, true},
		{[][2]int{{0, 10}, {20, 30}, {10, 20}}, true},
		{[][2]int{{0, 10}, {20, 30}, {10, 21}}, false},
		{[][2]int{{0, 11}, {20, 30}, {10, 20}}, false},
		{[][2]int{{0, 10}, {-1, 0}, {10, 20}}, false},
		{[][2]int{{0, 10}, {10, 20}, {380, 385}}, false},
	} {
		var spans []impl.Span
		for _, at := range x.l {
			spans = append(spans, impl.Span{From: at[0], To: at[1]})
		}
		if got := impl.Disjoint(spans); got != x.want {
			t.Errorf("Disjoint(%v) = %t", x.l, got)
		}
	}
}

func TestRawLoad(t *testing.T) {
	b := someBase(t)
	for slot := -1; slot <= 24; slot++ {
		c := impl.ClassAt(b.Mem.Heap, slot)
		span := impl.RangeOf(slot, c)
		for i := span.From; i < span.To; i++ {
			b.Mem.Heap.Bytes[i] = (i*7 + 3) % 256
		}
		for gen := 0; gen <= 7; gen++ {
			for at := -2; at <= 42; at++ {
				for width := -1; width <= 9; width++ {
					checkRaw(t, b, slot, 32*gen+slot, at, width)
				}
			}
		}
	}
	for _, x := range manyInts() {
		checkRaw(t, b, -1, x, 0, 1)
		if n, ok := impl.RawLoad(b, 33, x, 1); ok || n != 0 {
			t.Errorf("the byte at %d is %d, %t", x, n, ok)
		}
		if n, ok := impl.RawLoad(b, 33, 0, x); ok || n != 0 {
			t.Errorf("the number of width %d is %d, %t", x, n, ok)
		}
	}
}

// checkRaw compares RawLoad with the bytes; slot is that of h if it is a handle.
func checkRaw(t *testing.T, b impl.Base, slot int, h int, at int, width int) {
	t.Helper()
	want, is := 0, false
	if c := impl.ClassAt(b.Mem.Heap, slot); c >= 0 && impl.HandleOk(h) && at >= 0 && at+width <= []int{8, 16, 40}[c] {
		want, is = loadWant(b.Mem.Heap.Bytes, impl.StartOf(slot, c)+at, width)
	}
	if n, ok := impl.RawLoad(b, h, at, width); n != want || ok != is {
		t.Fatalf("RawLoad of %d at %d of width %d = %d, %t, want %d, %t", h, at, width, n, ok, want, is)
	}
}

// RawLoad asks nothing but a valid shape of the heap.
func TestRawLoadOfInvalidBases(t *testing.T) {
	shapeless, broken := badHeaps()
	for _, h := range shapeless {
		b := someBase(t)
		b.Mem.Heap = h
		if n, ok := impl.RawLoad(b, 32, 0, 1); n != 0 || ok {
			t.Error("a heap without a valid shape is read:", n)
		}
	}
	for _, h := range broken {
		b := impl.Base{Mem: impl.Mem{Heap: h}}
		for slot := range impl.SlotMax {
			checkRaw(t, b, slot, 96+slot, 1, 3)
		}
	}
	b := someBase(t)
	want, _ := impl.RawLoad(b, 36, 2, 7)
	b.Clock, b.Limbo, b.Haz, b.Mem.Lists = impl.Clock{}, nil, []int{1}, impl.Lists{}
	if got, ok := impl.RawLoad(b, 36, 2, 7); got != want || !ok {
		t.Error("the number is", got, ok)
	}
}

func TestSameBase(t *testing.T) {
	if !impl.SameBase(someBase(t), someBase(t)) || !impl.SameBase(impl.Base{}, impl.Base{Haz: []int{}}) {
		t.Error("equal bases differ")
	}
	b := someBase(t)
	others := append(badBases(t), impl.BaseNew())
	others = append(others,
		impl.Base{Mem: mustAlloc(t, b.Mem, 2, 8, 66), Clock: b.Clock, Limbo: b.Limbo, Haz: b.Haz},
		impl.Base{Mem: b.Mem, Clock: clockOf(6, b.Clock.Pins...), Limbo: b.Limbo, Haz: b.Haz},
		impl.Base{Mem: b.Mem, Clock: b.Clock, Limbo: impl.LimboNew(), Haz: b.Haz},
		impl.Base{Mem: b.Mem, Clock: b.Clock, Limbo: b.Limbo, Haz: []int{33, 0, 65}},
		impl.Base{Mem: b.Mem, Clock: b.Clock, Limbo: b.Limbo, Haz: []int{33, 0}},
	)
	for i, other := range others {
		if impl.SameBase(b, other) || impl.SameBase(other, b) {
			t.Errorf("another base (%d) is the same: %v", i, other)
		}
	}
}

// TestBaseWalk allocates, retires, drops and frees in a fixed disorder and follows the state of each slot (promise 14).
func TestBaseWalk(t *testing.T) {
	for run := range 4 {
		b, where := impl.BaseNew(), map[int]int{}
		for step, x := range spread(700*(run+1), 1<<40)[700*run:] {
			w, slot := x%3, x/3%24
			h := impl.HandleOf(slot, impl.GenIn(b.Mem.Heap, slot))
			switch x / 72 % 5 {
			case 0, 1:
				next, got, code := impl.AllocNow(b.Mem, w, []int{8, 16, 40}[x/1000%3])
				if code == impl.CdOk {
					where[impl.HandleSlot(got)] = impl.WhUsed
				}
				b.Mem = next
			case 2, 3:
				if where[slot] == impl.WhUsed {
					b.Limbo, _ = impl.RetireTo(b.Limbo, w, h, 0)
					where[slot] = impl.WhLimbo
				}
			default:
				if rows := b.Limbo[w].Rows; len(rows) > 0 {
					i := x / 1000 % len(rows)
					h, slot := rows[i].Handle, impl.HandleSlot(rows[i].Handle)
					b.Limbo, _ = impl.DropRow(b.Limbo, w, i)
					b.Mem = mustFree(t, b.Mem, w, h)
					where[slot] = impl.WhFree
					if impl.HandleGen(h) == impl.MaxGen {
						where[slot] = impl.WhGone
					}
				}
			}
			checkWhere(t, step, b, where)
		}
	}
}

// checkWhere compares the states of the slots that were ever allocated, and checks that each slot is in one state.
func checkWhere(t *testing.T, step int, b impl.Base, where map[int]int) {
	t.Helper()
	tally, spans := make([]int, 5), []impl.Span{}
	for slot := range impl.SlotMax {
		at := impl.Where(b, slot)
		if want, is := where[slot]; is && at != want || !is && at != impl.WhNone && at != impl.WhFree {
			t.Fatalf("step %d: slot %d is %d, want %d", step, slot, at, want)
		}
		if at == impl.WhLimbo || at == impl.WhUsed {
			spans = append(spans, impl.RangeOf(slot, impl.ClassAt(b.Mem.Heap, slot)))
		}
		tally[at]++
	}
	if got := impl.Tally(b); !slices.Equal(got, tally) || !impl.BaseOk(b) {
		t.Fatalf("step %d: the tally is %v, want %v", step, got, tally)
	}
	if got := impl.Ranges(b); !slices.Equal(got, spans) || !impl.Disjoint(got) {
		t.Fatalf("step %d: the ranges are %v, want %v", step, got, spans)
	}
	var bytes [impl.ArenaLen]bool
	for _, span := range spans {
		mark(t, &bytes, span)
	}
}

func TestBasesArePure(t *testing.T) {
	all := pool(append(everyNth(badBases(t), 9), impl.BaseNew(), someBase(t))...)
	pure(t, impl.BaseNew)
	pureOverAll(t, impl.BaseOk, all)
	pureOverAll(t, impl.Where, all, pool(-1, 0, 2, 12))
	pureOverAll(t, impl.Tally, all)
	pureOverAll(t, impl.Ranges, all)
	pureOverAll(t, impl.RawLoad, all, pool(0, 32, 33, 36), pool(0, 5), pool(0, 4))
	pureOverAll(t, impl.SameBase, pool(impl.Base{}, someBase(t)), all)
	pureOverAll(t, impl.Disjoint, pool(nil, []impl.Span{{From: 0, To: 5}, {From: 4, To: 6}}, impl.Ranges(someBase(t))))
}
