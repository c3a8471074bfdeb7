package tests

import (
	"math"
	"slices"
	"testing"

	"loop.example/g01538/impl"
)

// variedBases returns bases in many valid states: pages are granted, slots used up, rows ripe and not, pins on, old and marked.
func variedBases() []impl.Base {
	var l []impl.Base
	for run := range 6 {
		b := impl.BaseNew()
		for step, x := range spread(400*(run+1), 1<<40)[400*run:] {
			b = disturb(b, x)
			if step%9 == 0 {
				l = append(l, copyOfBase(b))
			}
		}
	}
	return l
}

// disturb returns the base after one change of one of its parts.
func disturb(b impl.Base, x int) impl.Base {
	w, slot, rest := x%3, x/3%24, x/1000
	h := impl.HandleOf(slot, impl.GenIn(b.Mem.Heap, slot))
	switch x / 72 % 12 {
	case 0, 1, 2, 3:
		b.Mem, _, _ = impl.AllocNow(b.Mem, w, []int{8, 8, 16, 40}[rest%4])
	case 4, 5:
		if impl.Where(b, slot) == impl.WhUsed {
			b.Limbo, _ = impl.RetireTo(b.Limbo, w, h, b.Clock.Epoch)
		}
	case 6:
		b.Clock, _ = impl.PinTo(b.Clock, w, b.Clock.Epoch)
	case 7:
		b.Clock, _ = impl.Unpin(b.Clock, w)
	case 8:
		b.Clock, _ = impl.LookAt(b.Clock, w, b.Clock.Epoch)
	case 9:
		b.Clock, _ = impl.Bump(b.Clock, b.Clock.Epoch)
	case 10:
		b.Haz, _ = impl.Publish(b.Haz, w, h)
		if rest%3 == 0 {
			b.Haz, _ = impl.Clear(b.Haz, w)
		}
	case 11:
		if rows := b.Limbo[w].Rows; len(rows) > 0 {
			i := rest % len(rows)
			b.Mem, _ = impl.FreeNow(b.Mem, w, rows[i].Handle)
			b.Limbo, _ = impl.DropRow(b.Limbo, w, i)
		}
	}
	return b
}

// steps checks that one step leads from b and s to the operation to and the base that change makes of b.
func steps(t *testing.T, b impl.Base, w int, s impl.Sub, to impl.Sub, change func(b *impl.Base)) {
	t.Helper()
	want := copyOfBase(b)
	if change != nil {
		change(&want)
	}
	next, got := impl.SubStep(b, w, s)
	if got != to {
		t.Errorf("the step of %+v gives %+v, want %+v", s, got, to)
	}
	if !impl.SameBase(next, want) || !impl.BaseOk(next) {
		t.Errorf("the step of %+v gives the base %v, want %v", s, next, want)
	}
}

func finished(s impl.Sub, code int) impl.Sub {
	s.Done, s.Code = true, code
	return s
}

// odd is an operation whose other fields have values that no step gives them.
func odd(kind int, a int, pc int) impl.Sub {
	return impl.Sub{Kind: kind, A: a, Pc: pc, E: 71, Row: 72, B: 73, H: 74, Out: 75, Code: 76}
}

func TestSubNew(t *testing.T) {
	for kind := -1; kind <= 7; kind++ {
		for _, a := range []int{math.MinInt, -1, 0, 40, math.MaxInt} {
			if got := impl.SubNew(kind, a); got != (impl.Sub{Kind: kind, A: a}) {
				t.Errorf("SubNew(%d, %d) = %+v", kind, a, got)
			}
		}
	}
}

func TestSubWords(t *testing.T) {
	words := []string{"", "alloc", "retire", "advance", "collect", "pin", "", ""}
	kinds := []int{0, impl.SbAlloc, impl.SbRetire, impl.SbAdvance, impl.SbCollect, impl.SbPin, 6, 7}
	for i, kind := range kinds {
		if kind != i || impl.SubWord(kind) != words[i] {
			t.Errorf("kind %d is %d with the word %q", i, kind, impl.SubWord(kind))
		}
	}
	for _, kind := range manyInts() {
		if word := impl.SubWord(kind); word != "" {
			t.Errorf("kind %d has the word %q", kind, word)
		}
	}
}

func TestStepsOf(t *testing.T) {
	for kind := -2; kind <= 8; kind++ {
		for rows := -2; rows <= 27; rows++ {
			want := map[int]int{1: 4, 2: 2, 3: 5, 4: 2 + 5*rows, 5: 3}[kind]
			if rows < 0 || rows > 24 {
				want = 0
			}
			if got := impl.StepsOf(kind, rows); got != want {
				t.Errorf("StepsOf(%d, %d) = %d, want %d", kind, rows, got, want)
			}
		}
	}
	for _, x := range []int{math.MinInt, -1, 25, math.MaxInt} {
		if impl.StepsOf(x, 0) != 0 || impl.StepsOf(impl.SbCollect, x) != 0 || impl.StepsOf(impl.SbAlloc, x) != 0 {
			t.Errorf("StepsOf(%d) is not 0", x)
		}
	}
}

func TestSubStepRefuses(t *testing.T) {
	refuses := func(b impl.Base, w int, s impl.Sub) {
		t.Helper()
		if next, got := impl.SubStep(b, w, s); got != s || !impl.SameBase(next, b) {
			t.Errorf("SubStep of worker %d and %+v gives %+v", w, s, got)
		}
		if next, got := impl.SubRun(b, w, s); got != s || !impl.SameBase(next, b) {
			t.Errorf("SubRun of worker %d and %+v gives %+v", w, s, got)
		}
	}
	for kind := range 7 {
		for pc := range 4 {
			for _, w := range []int{math.MinInt, -1, 3, math.MaxInt} {
				refuses(someBase(t), w, impl.Sub{Kind: kind, Pc: pc})
			}
			done := odd(kind, 8, pc)
			done.Done = true
			refuses(someBase(t), 0, done)
		}
		for _, b := range everyNth(badBases(t), 3) {
			refuses(b, 0, impl.SubNew(kind, 8))
		}
	}
}

func TestUnknownSteps(t *testing.T) {
	b := someBase(t)
	for _, x := range [][3]int{
		{0, 8, 0}, {6, 8, 0}, {-1, 8, 0}, {math.MinInt, 8, 1}, {math.MaxInt, 33, 1},
		{impl.SbAlloc, 8, 4}, {impl.SbAlloc, 8, -1}, {impl.SbAlloc, 8, math.MaxInt}, {impl.SbRetire, 33, 2}, {impl.SbRetire, 33, -1},
		{impl.SbAdvance, 0, 3}, {impl.SbAdvance, 0, -1}, {impl.SbCollect, 0, 4}, {impl.SbCollect, 0, -1}, {impl.SbPin, 0, 3}, {impl.SbPin, 0, -1},
		{impl.SbPin, 0, math.MinInt}, {impl.SbRetire, 0, math.MaxInt},
	} {
		s := odd(x[0], x[1], x[2])
		steps(t, b, 1, s, finished(s, impl.CdArgs), nil)
	}
}

func TestAllocWithoutClass(t *testing.T) {
	for _, size := range []int{math.MinInt, -1, 0, 41, 100, math.MaxInt} {
		for _, pc := range []int{math.MinInt, -1, 0, 1, 2, 3, 4, 99, math.MaxInt} {
			s := odd(impl.SbAlloc, size, pc)
			steps(t, someBase(t), 0, s, finished(s, impl.CdSize), nil)
		}
	}
}

func TestAllocSteps(t *testing.T) {
	took := func(pc int, size int, h int) (impl.Sub, impl.Sub) {
		s := odd(impl.SbAlloc, size, pc)
		to := finished(s, impl.CdOk)
		to.Out = h
		return s, to
	}
	goesOn := func(pc int, size int) (impl.Sub, impl.Sub) {
		s := odd(impl.SbAlloc, size, pc)
		to := s
		to.Pc++
		return s, to
	}
	// Only worker 2 has a slot on its local list, and only class 1 one on its global list.
	b := someBase(t)
	b.Mem = mustAlloc(t, b.Mem, 0, 16, 48)
	s, to := took(0, 8, 66)
	steps(t, b, 2, s, to, func(b *impl.Base) { b.Mem.Lists.Own[6].Slots = nil })
	s, to = goesOn(0, 8)
	steps(t, b, 1, s, to, nil)
	s, to = goesOn(0, 16)
	steps(t, b, 2, s, to, nil)
	for _, pc := range []int{1, 3} {
		s, to = took(pc, 9, 49)
		steps(t, b, 1, s, to, func(b *impl.Base) { b.Mem.Lists.Global[1].Slots = nil })
	}
	s, to = goesOn(1, 8)
	steps(t, b, 2, s, to, nil)
	s, to = took(2, 8, 52)
	steps(t, b, 2, s, to, func(b *impl.Base) {
		b.Mem.Heap, _ = impl.Grant(b.Mem.Heap, 0)
		b.Mem.Lists.Global[0].Slots = []int{21, 22, 23}
	})
	s, to = took(2, 10, 52)
	steps(t, b, 0, s, to, func(b *impl.Base) {
		b.Mem.Heap, _ = impl.Grant(b.Mem.Heap, 1)
		b.Mem.Lists.Global[1].Slots = []int{17, 21}
	})
	s = odd(impl.SbAlloc, 8, 3)
	steps(t, b, 0, s, finished(s, impl.CdFull), nil)
	b.Mem = mustAlloc(t, b.Mem, 0, 40, 52)
	s, to = goesOn(2, 8)
	steps(t, b, 0, s, to, nil)
}

// Worker 0 finds the global list empty, then worker 1 grants the last page, so that worker 0 takes from it without a grant.
func TestPageGrantedBetweenTwoChecks(t *testing.T) {
	b := impl.BaseNew()
	b.Mem.Heap = heapOf(2, 2, 2, 2, 2)
	own, other := impl.SubNew(impl.SbAlloc, 5), impl.SubNew(impl.SbAlloc, 6)
	for range 2 {
		b, own = impl.SubStep(b, 0, own)
	}
	if own.Pc != 2 || own.Done {
		t.Fatalf("the first checks give %+v", own)
	}
	b, other = impl.SubRun(b, 1, other)
	if other.Out != 52 || other.Code != impl.CdOk {
		t.Fatalf("worker 1 gets %+v", other)
	}
	full := copyOfBase(b)
	b, own = impl.SubStep(b, 0, own)
	if own.Pc != 3 || own.Done || !impl.SameBase(b, full) {
		t.Fatalf("without a page to grant: %+v", own)
	}
	b, own = impl.SubStep(b, 0, own)
	if !own.Done || own.Code != impl.CdOk || own.Out != 55 || !impl.Valid(b.Mem, 55) || !impl.Valid(b.Mem, 52) || !impl.BaseOk(b) {
		t.Errorf("the last check gives %+v", own)
	}
	// If others have taken all slots of that page before, there is none left.
	for range 3 {
		full, _ = impl.SubRun(full, 2, impl.SubNew(impl.SbAlloc, 8))
	}
	_, own = impl.SubRun(full, 0, impl.Sub{Kind: impl.SbAlloc, A: 5, Pc: 2})
	if !own.Done || own.Code != impl.CdFull || own.Out != 0 || own.Pc != 3 {
		t.Errorf("without a slot: %+v", own)
	}
}

func TestRetireSteps(t *testing.T) {
	b := someBase(t)
	s := odd(impl.SbRetire, 33, 0)
	to := s
	to.E, to.Pc = 5, 1
	steps(t, b, 1, s, to, nil)
	retires := func(h int, e int, code int) {
		t.Helper()
		for w := range impl.Workers {
			s := odd(impl.SbRetire, h, 1)
			s.E = e
			steps(t, b, w, s, finished(s, code), func(b *impl.Base) {
				if code == impl.CdOk {
					b.Limbo[w].Rows = append(b.Limbo[w].Rows, impl.LRow{Handle: h, Epoch: e})
				}
			})
		}
	}
	for e := range 6 {
		retires(33, e, impl.CdOk)
		retires(35, e, impl.CdOk)
		retires(37, e, impl.CdOk)
	}
	for _, e := range []int{math.MinInt, -1, 6, 100000, math.MaxInt} {
		retires(33, e, impl.CdArgs)
		retires(32, e, impl.CdArgs)
		retires(0, e, impl.CdArgs)
	}
	// A free slot, one that is used up, other generations, slots in limbo, and what is no handle.
	for _, h := range []int{66, 34, 204, 65, 67, 64, 36, 104, 32, 38, 48, 0, 1, -33, 56, 224, math.MinInt, math.MaxInt} {
		retires(h, 5, impl.CdStale)
	}
}

func TestAdvanceSteps(t *testing.T) {
	b := someBase(t)
	s := odd(impl.SbAdvance, 9, 0)
	to := s
	to.E, to.B, to.Pc = 5, 0, 1
	steps(t, b, 2, s, to, nil)
	looks := func(c impl.Clock, worker int, e int, delays bool) {
		t.Helper()
		b := someBase(t)
		b.Clock, b.Limbo = c, impl.LimboNew()
		s := odd(impl.SbAdvance, 9, 1)
		s.B, s.E = worker, e
		to := s
		if delays {
			to = finished(s, impl.CdNone)
		} else {
			to.B++
			to.Pc = []int{1, 1, 2}[worker]
		}
		steps(t, b, 1, s, to, func(b *impl.Base) { b.Clock, _ = impl.LookAt(b.Clock, worker, e) })
	}
	pins := []impl.Pin{{}, {On: true, Epoch: 2}, {On: true, Epoch: 1, Seen: 1}, {On: true, Epoch: 1, Seen: 2}, {On: true, Epoch: 1, Marked: true}}
	for worker := range impl.Workers {
		for i, pin := range pins {
			c := clockOf(2, impl.Pin{On: true}, impl.Pin{On: true}, impl.Pin{On: true})
			c.Pins[worker] = pin
			looks(c, worker, 2, i == 2)
			looks(c, worker, 1, i == 1)
			looks(c, worker, 7, i == 1 || i == 2)
		}
	}
	for _, worker := range []int{math.MinInt, -1, 3, math.MaxInt} {
		s := odd(impl.SbAdvance, 9, 1)
		s.B = worker
		steps(t, b, 1, s, finished(s, impl.CdArgs), nil)
	}
}

func TestAdvanceBumps(t *testing.T) {
	for _, e := range []int{math.MinInt, -1, 0, 4, 5, 6, math.MaxInt} {
		s := odd(impl.SbAdvance, 9, 2)
		s.E = e
		to := finished(s, impl.CdOk)
		if e == 5 {
			to.Out = 1
		}
		steps(t, someBase(t), 0, s, to, func(b *impl.Base) {
			if e == 5 {
				b.Clock.Epoch = 6
			}
		})
	}
	last := impl.BaseNew()
	last.Clock.Epoch = impl.MaxEpoch
	b, s := impl.SubRun(last, 2, impl.SubNew(impl.SbAdvance, 0))
	if s != (impl.Sub{Kind: impl.SbAdvance, Pc: 2, E: impl.MaxEpoch, B: 3, Done: true}) || !impl.SameBase(b, last) {
		t.Errorf("the advance from the last epoch gives %+v", s)
	}
}

// collecting returns a base whose worker 1 has rows that are ripe at 5 and rows that are not.
func collecting(t *testing.T) impl.Base {
	b := someBase(t)
	b.Limbo = limboOf([][2]int{{33, 0}}, [][2]int{{104, 5}, {64, 3}, {35, 4}, {36, 2}}, [][2]int{{37, 1}})
	b.Haz = []int{33, 104, 36}
	if !impl.BaseOk(b) {
		t.Fatal("the base is invalid")
	}
	return b
}

func TestCollectFindsRipeRows(t *testing.T) {
	b := collecting(t)
	s := odd(impl.SbCollect, 9, 0)
	to := s
	to.E, to.Row, to.Pc = 5, 0, 1
	steps(t, b, 1, s, to, nil)
	finds := func(w int, e int, from int, row int) {
		t.Helper()
		s := odd(impl.SbCollect, 9, 1)
		s.E, s.Row = e, from
		to := finished(s, impl.CdOk)
		if row >= 0 {
			to = s
			to.Row, to.H, to.B, to.Pc, to.Code = row, b.Limbo[w].Rows[row].Handle, 0, 2, s.Code
		}
		steps(t, b, w, s, to, nil)
	}
	for from, row := range []int{1, 1, 3, 3, -1, -1} {
		finds(1, 5, from, row)
		finds(1, 7, from, []int{0, 1, 2, 3, -1, -1}[from])
		finds(1, 4, from, []int{3, 3, 3, 3, -1, -1}[from])
		finds(1, 3, from, -1)
	}
	for _, from := range []int{math.MinInt, -2, -1} {
		finds(1, 5, from, 1)
		finds(0, 2, from, 0)
		finds(0, 1, from, -1)
	}
	finds(1, math.MaxInt, math.MaxInt, -1)
	finds(1, math.MinInt, 0, -1)
	finds(2, 3, 0, 0)
}

func TestCollectAsksEachHazardPointer(t *testing.T) {
	asks := func(row int, h int, worker int, held bool) {
		t.Helper()
		s := odd(impl.SbCollect, 9, 2)
		s.Row, s.H, s.B = row, h, worker
		to := s
		switch {
		case held:
			to.Row++
			to.Pc = 1
		default:
			to.B++
			to.Pc = []int{2, 2, 3}[worker]
		}
		steps(t, collecting(t), 1, s, to, nil)
	}
	for worker := range impl.Workers {
		asks(0, 104, worker, worker == 1)
		asks(1, 64, worker, false)
		asks(2, 35, worker, false)
		asks(3, 36, worker, worker == 2)
	}
	refuses := func(row int, h int, worker int) {
		t.Helper()
		s := odd(impl.SbCollect, 9, 2)
		s.Row, s.H, s.B = row, h, worker
		steps(t, collecting(t), 1, s, finished(s, impl.CdArgs), nil)
	}
	for _, x := range []int{math.MinInt, -1, 4, math.MaxInt} {
		refuses(x, 64, 0)
		refuses(1, x, 0)
	}
	for _, x := range []int{math.MinInt, -1, 3, math.MaxInt} {
		refuses(1, 64, x)
	}
	refuses(1, 104, 0)
	refuses(0, 33, 0)
	refuses(0, 0, 0)
}

func TestCollectDropsAndFrees(t *testing.T) {
	drops := func(w int, row int, h int, e int, ok bool) {
		t.Helper()
		s := odd(impl.SbCollect, 9, 3)
		s.Row, s.H, s.E = row, h, e
		to := finished(s, impl.CdArgs)
		if ok {
			to = s
			to.Out++
			to.Pc = 1
		}
		steps(t, collecting(t), w, s, to, func(b *impl.Base) {
			if ok {
				b.Limbo[w].Rows = slices.Delete(b.Limbo[w].Rows, row, row+1)
				b.Mem = mustFree(t, b.Mem, w, h)
			}
		})
	}
	for row, h := range []int{104, 64, 35, 36} {
		for e := range 9 {
			drops(1, row, h, e, e-2 >= []int{5, 3, 4, 2}[row])
		}
	}
	drops(0, 0, 33, 2, true)
	drops(2, 0, 37, 3, true)
	drops(2, 0, 37, 2, false)
	for _, x := range []int{math.MinInt, -1, 4, math.MaxInt} {
		drops(1, x, 36, 9, false)
		drops(1, 3, x, 9, false)
	}
	drops(1, 1, 36, 9, false)
	drops(0, 1, 64, 9, false)
}

// A row of the last generation is dropped, but its slot is given to no list.
func TestCollectOfTheLastGeneration(t *testing.T) {
	b := impl.BaseNew()
	b.Mem.Heap, _ = impl.SetGen(heapOf(2), 0, 6)
	b.Clock.Epoch = 2
	b.Limbo = limboOf([][2]int{{192, 0}}, nil, nil)
	b, s := impl.SubRun(b, 0, impl.SubNew(impl.SbCollect, 0))
	if s.Out != 1 || impl.Where(b, 0) != impl.WhGone || !impl.SameLists(b.Mem.Lists, impl.ListsNew()) {
		t.Errorf("the collection %+v leaves %v", s, b)
	}
}

func TestPinSteps(t *testing.T) {
	b := someBase(t)
	s := odd(impl.SbPin, 9, 0)
	to := s
	to.E, to.Pc = 5, 1
	steps(t, b, 1, s, to, nil)
	for w := range impl.Workers {
		for _, e := range []int{math.MinInt, -1, 0, 4, 5, 6, math.MaxInt} {
			s := odd(impl.SbPin, 9, 1)
			s.E = e
			ok := e >= 0 && e <= 5
			to := finished(s, impl.CdArgs)
			if ok {
				to = s
				to.Pc = 2
			}
			steps(t, b, w, s, to, func(b *impl.Base) {
				if ok {
					b.Clock.Pins[w] = impl.Pin{On: true, Epoch: e}
				}
			})
			s.Pc = 2
			to = finished(s, impl.CdOk)
			if e != 5 {
				to = s
				to.Pc = 0
			}
			steps(t, b, w, s, to, nil)
		}
	}
}

// If the epoch advances between the first step and the pin, the pin is set once more.
func TestPinInAnEpochThatPassed(t *testing.T) {
	for after := range 2 {
		b, s := impl.BaseNew(), impl.SubNew(impl.SbPin, 0)
		for range after + 1 {
			b, s = impl.SubStep(b, 1, s)
		}
		b, advance := impl.SubRun(b, 0, impl.SubNew(impl.SbAdvance, 0))
		if advance.Out != 1 {
			t.Fatal("no advance")
		}
		n := 0
		for ; !s.Done; n++ {
			b, s = impl.SubStep(b, 1, s)
		}
		if n != 5-after || s.Code != impl.CdOk || b.Clock.Pins[1] != (impl.Pin{On: true, Epoch: 1}) {
			t.Errorf("after %d steps of %+v the pin is %v", n, s, b.Clock.Pins[1])
		}
	}
}

// A hazard pointer that is published after the check whether anyone holds the handle does not stop its reclamation,
// so a reader must look at the cell again after it has published; one that is published before is seen.
func TestHazardPublishedAfterTheCheck(t *testing.T) {
	for _, late := range []bool{false, true} {
		for reader := range impl.Workers {
			b := impl.BaseNew()
			b.Mem = mustAlloc(t, b.Mem, 0, 8, 32)
			b.Clock = clockOf(2, make([]impl.Pin, 3)...)
			b.Limbo = limboOf(nil, [][2]int{{32, 0}}, nil)
			s := impl.SubNew(impl.SbCollect, 0)
			for s.Pc != 2 || s.B <= reader-1 {
				b, s = impl.SubStep(b, 1, s)
			}
			if late {
				b, s = impl.SubStep(b, 1, s)
			}
			z, ok := impl.Publish(b.Haz, reader, 32)
			if !ok || !slices.Equal(impl.HeldBy(z, 32), []int{reader}) {
				t.Fatal("the hazard pointer is refused")
			}
			b.Haz = z
			b, s = impl.SubRun(b, 1, s)
			if !s.Done || s.Code != impl.CdOk || impl.Valid(b.Mem, 32) == late || impl.HazAt(b.Haz, reader) != 32 {
				t.Errorf("late %t: after the collection %v the hazard pointer holds %d, Valid is %t", late, s, impl.HazAt(b.Haz, reader), impl.Valid(b.Mem, 32))
			}
		}
	}
}

// alone performs the operation without interference and checks that it takes at most as many steps as StepsOf says
// and keeps the base valid (promise 15).
func alone(t *testing.T, b impl.Base, w int, s impl.Sub) (impl.Base, impl.Sub) {
	t.Helper()
	most := impl.StepsOf(s.Kind, len(b.Limbo[w].Rows))
	runBase, run := impl.SubRun(b, w, s)
	for range most {
		next, after := impl.SubStep(b, w, s)
		if !impl.BaseOk(next) || s.Done && (after != s || !impl.SameBase(next, b)) {
			t.Fatalf("the step of %+v gives %+v and %v", s, after, next)
		}
		b, s = next, after
	}
	if !s.Done || run != s || !impl.SameBase(runBase, b) {
		t.Fatalf("after %d steps: %+v, but SubRun gives %+v", most, s, run)
	}
	return b, s
}

func TestAllocAloneIsAllocNow(t *testing.T) {
	codes := map[int]int{}
	for _, b := range variedBases() {
		for w := range impl.Workers {
			for _, size := range []int{-1, 0, 1, 8, 9, 16, 17, 40, 41} {
				mem, h, code := impl.AllocNow(b.Mem, w, size)
				next, s := alone(t, b, w, impl.SubNew(impl.SbAlloc, size))
				want := impl.Base{Mem: mem, Clock: b.Clock, Limbo: b.Limbo, Haz: b.Haz}
				if s.Out != h || s.Code != code || !impl.SameBase(next, want) {
					t.Fatalf("SbAlloc of %d bytes gives %+v, but AllocNow %d, %d", size, s, h, code)
				}
				codes[code]++
			}
		}
	}
	if codes[impl.CdOk] < 100 || codes[impl.CdFull] < 100 || codes[impl.CdSize] < 100 {
		t.Error("the bases have the codes", codes)
	}
}

func TestOperationsAlone(t *testing.T) {
	for _, b := range variedBases() {
		for w := range impl.Workers {
			for slot := range impl.SlotMax {
				h := impl.HandleOf(slot, impl.GenIn(b.Mem.Heap, slot))
				used := impl.Where(b, slot) == impl.WhUsed
				next, s := alone(t, b, w, impl.SubNew(impl.SbRetire, h))
				if used != (s.Code == impl.CdOk) || used && impl.Where(next, slot) != impl.WhLimbo || !used && (s.Code != impl.CdStale || !impl.SameBase(next, b)) {
					t.Fatalf("SbRetire of %d gives %+v and %d", h, s, impl.Where(next, slot))
				}
			}
			next, s := alone(t, b, w, impl.SubNew(impl.SbPin, 0))
			if e, on := impl.PinnedAt(next.Clock, w); s.Code != impl.CdOk || !on || e != b.Clock.Epoch {
				t.Fatalf("SbPin gives %+v and %v", s, next.Clock)
			}
		}
	}
}

// TestAdvanceAlone checks that the epoch is incremented if no pin is behind (promise 16), and otherwise at most MaxStall
// advances fail before it is, for each pin that is behind.
func TestAdvanceAlone(t *testing.T) {
	delayed := 0
	for _, b := range variedBases() {
		epoch, behind := b.Clock.Epoch, len(impl.Behind(b.Clock))
		for n := 0; ; n++ {
			next, s := alone(t, b, n%3, impl.SubNew(impl.SbAdvance, 0))
			if len(impl.Behind(b.Clock)) == 0 && s.Out != 1 || n > behind*impl.MaxStall {
				t.Fatalf("advance %d past %v gives %+v", n, b.Clock, s)
			}
			if s.Out == 1 {
				if s.Code != impl.CdOk || next.Clock.Epoch != epoch+1 {
					t.Fatalf("the advance %+v gives %v", s, next.Clock)
				}
				break
			}
			if s.Code != impl.CdNone || next.Clock.Epoch != epoch {
				t.Fatalf("the advance %+v gives %v", s, next.Clock)
			}
			b = next
			delayed++
		}
	}
	if delayed < 50 {
		t.Error("only", delayed, "advances are delayed")
	}
}

// TestCollectAlone checks that only rows stay that are protected by hazard pointers or not ripe (promise 16).
func TestCollectAlone(t *testing.T) {
	dropped, kept := 0, 0
	for _, b := range variedBases() {
		for w := range impl.Workers {
			want, free := []impl.LRow{}, copyOfMem(b.Mem)
			for _, row := range b.Limbo[w].Rows {
				if len(impl.HeldBy(b.Haz, row.Handle)) > 0 || row.Epoch+2 > b.Clock.Epoch {
					want = append(want, row)
				} else {
					free = mustFree(t, free, w, row.Handle)
				}
			}
			next, s := alone(t, b, w, impl.SubNew(impl.SbCollect, 0))
			n := len(b.Limbo[w].Rows) - len(want)
			if s.Code != impl.CdOk || s.Out != n || !slices.Equal(next.Limbo[w].Rows, want) || !impl.SameMem(next.Mem, free) {
				t.Fatalf("SbCollect gives %+v and the rows %v, want %v", s, next.Limbo[w].Rows, want)
			}
			dropped, kept = dropped+n, kept+len(want)
		}
	}
	if dropped < 100 || kept < 100 {
		t.Error("the collections drop", dropped, "rows and keep", kept)
	}
}

// TestInterleavedOperations performs operations of all workers in a fixed disorder: each step changes at most what it must
// and keeps the base valid.
func TestInterleavedOperations(t *testing.T) {
	for run := range 4 {
		b := impl.BaseNew()
		var subs [impl.Workers]impl.Sub
		done := map[int]int{}
		for step, x := range spread(3000*(run+1), 1<<40)[3000*run:] {
			w := x % 3
			if subs[w].Kind == 0 || subs[w].Done {
				slot := x / 50 % 24
				a := []int{0, x / 5000 % 45, impl.HandleOf(slot, impl.GenIn(b.Mem.Heap, slot)), 0, 0, 0}
				kind := []int{1, 1, 2, 2, 3, 3, 4, 4, 5}[x/3%9]
				subs[w] = impl.SubNew(kind, a[kind])
			}
			next, s := impl.SubStep(b, w, subs[w])
			if !impl.BaseOk(next) || !impl.Disjoint(impl.Ranges(next)) {
				t.Fatalf("step %d of %+v gives the base %v", step, subs[w], next)
			}
			for other := range impl.Workers {
				if other != w && !slices.Equal(next.Limbo[other].Rows, b.Limbo[other].Rows) {
					t.Fatalf("step %d of %+v changes the rows of worker %d", step, subs[w], other)
				}
			}
			if s.Done {
				done[s.Kind]++
			}
			b, subs[w] = next, s
			if x/70000%40 == 0 {
				b.Haz, _ = impl.Publish(b.Haz, w, impl.HandleOf(x/7%24, 1+x/11%6))
				b.Clock, _ = impl.Unpin(b.Clock, x/13%3)
			}
		}
		for kind := 1; kind <= 5; kind++ {
			if done[kind] < 20 {
				t.Errorf("only %d operations of kind %d are done", done[kind], kind)
			}
		}
	}
}

func TestSubsArePure(t *testing.T) {
	bases := append(everyNth(variedBases(), 40), collecting(t), someBase(t), impl.Base{}, badBases(t)[3])
	var subs []impl.Sub
	for kind := range 7 {
		for pc := range 5 {
			subs = append(subs, impl.Sub{Kind: kind, A: 33, Pc: pc, E: 5}, impl.Sub{Kind: kind, A: 8, Pc: pc, E: 9, Row: 1, H: 64})
		}
	}
	pureOverAll(t, impl.SubStep, pool(bases...), pool(-1, 0, 1, 2), pool(subs...))
	pureOverAll(t, impl.SubRun, pool(bases[:5]...), pool(-1, 1), pool(subs...))
}
