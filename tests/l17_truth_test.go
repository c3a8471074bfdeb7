package tests

import (
	"maps"
	"math"
	"slices"
	"testing"

	"loop.example/g01538/impl"
)

func sortedKeys(set map[int]bool) []int {
	return slices.Sorted(maps.Keys(set))
}

// guardedWant and namedWant are the handles of a valid shelf as the document describes them.
func guardedWant(s impl.Shelf) []int {
	set := map[int]bool{}
	for w, job := range s.Jobs {
		pin := s.Base.Clock.Pins[w]
		place := [2]int{job.Op.Kind, job.Pc}
		pinned := slices.Contains([][2]int{{impl.OpGet, 2}, {impl.OpGet, 3}, {impl.OpPeek, 1}, {impl.OpPeek, 2}}, place)
		if job.Busy && job.H != 0 && (pinned && pin.On && !pin.Marked || place == [2]int{impl.OpHaz, 3}) {
			set[job.H] = true
		}
	}
	return sortedKeys(set)
}

func namedWant(s impl.Shelf) []int {
	set := map[int]bool{}
	for _, h := range s.Cells {
		set[h] = true
	}
	for _, job := range s.Jobs {
		if job.Busy && job.Op.Kind == impl.OpSet && (job.Pc == 1 || job.Pc == 2) {
			set[job.H] = true
		}
		if job.Busy && job.Op.Kind == impl.OpSet && job.Pc == 3 {
			set[job.Old] = true
		}
	}
	delete(set, 0)
	return sortedKeys(set)
}

// accountedWant reports whether each used slot is named by its Valid handle and there are no other names.
func accountedWant(s impl.Shelf) bool {
	want := map[int]bool{}
	for slot := range impl.SlotMax {
		if impl.Where(s.Base, slot) == impl.WhUsed {
			want[impl.HandleOf(slot, impl.GenIn(s.Base.Mem.Heap, slot))] = true
		}
	}
	return slices.Equal(sortedKeys(want), namedWant(s))
}

func checkTruths(t *testing.T, s impl.Shelf) {
	t.Helper()
	guarded, named := guardedWant(s), namedWant(s)
	if got := impl.Guarded(s); !slices.Equal(got, guarded) {
		t.Fatalf("Guarded of %+v is %v, want %v", s, got, guarded)
	}
	if got := impl.Named(s); !slices.Equal(got, named) {
		t.Fatalf("Named of %+v is %v, want %v", s, got, named)
	}
	safe := true
	for _, h := range guarded {
		safe = safe && impl.Valid(s.Base.Mem, h)
	}
	if got := impl.SafeNow(s); got != safe {
		t.Fatalf("SafeNow of %+v is %t", s, got)
	}
	if got := impl.Accounted(s); got != accountedWant(s) {
		t.Fatalf("Accounted of %+v is %t", s, got)
	}
}

func TestTruthsOfInvalidShelves(t *testing.T) {
	for i, s := range badShelves(t) {
		if len(impl.Guarded(s)) != 0 || len(impl.Named(s)) != 0 || impl.SafeNow(s) || impl.Accounted(s) {
			t.Errorf("the invalid shelf %d has truths", i)
		}
	}
}

func TestGuardedAndNamed(t *testing.T) {
	for w := range impl.Workers {
		for _, o := range everyOp() {
			for pc := -1; pc <= 9; pc++ {
				for _, h := range []int{0, 33, 32, 64, 66, 215} {
					s := someShelf(t)
					s.Jobs[w] = oddJob(o, pc)
					s.Jobs[w].H, s.Jobs[w].Old = h, 37
					checkTruths(t, s)
					s.Jobs[w].H, s.Jobs[w].Old = 35, h
					checkTruths(t, s)
					s.Jobs[(w+1)%3] = oddJob(impl.Op{Kind: impl.OpHaz}, 3)
					s.Jobs[(w+2)%3] = oddJob(impl.Op{Kind: impl.OpSet}, 2)
					s.Cells[1] = h
					checkTruths(t, s)
				}
			}
		}
	}
}

// A handle that is guarded by two workers is guarded once, and stays so until both are done with it.
func TestHandleGuardedByTwoWorkers(t *testing.T) {
	for _, x := range []struct {
		a, b     impl.Op
		pcA, pcB int
	}{
		{impl.Op{Kind: impl.OpHaz}, impl.Op{Kind: impl.OpHaz}, 3, 3},
		{impl.Op{Kind: impl.OpHaz}, impl.Op{Kind: impl.OpGet}, 3, 2},
		{impl.Op{Kind: impl.OpGet}, impl.Op{Kind: impl.OpHaz}, 3, 3},
		{impl.Op{Kind: impl.OpGet}, impl.Op{Kind: impl.OpGet}, 2, 3},
	} {
		sets := []impl.Op{{Kind: impl.OpSet, Size: 8, Val: 5}, {Kind: impl.OpSet, Size: 8, Val: 6}}
		s, _ := told(t, impl.ShelfNew(todoOf(sets, []impl.Op{x.a}, []impl.Op{x.b})), 0)
		s = until(t, s, 1, x.pcA)
		s = until(t, s, 2, x.pcB)
		guarded := func(want ...int) {
			t.Helper()
			if got := impl.Guarded(s); !slices.Equal(got, want) || !impl.SafeNow(s) || !impl.Accounted(s) {
				t.Fatalf("%+v guards %v, want %v", s.Jobs, got, want)
			}
		}
		guarded(32)
		s, _ = told(t, s, 0)
		guarded(32)
		freed := copyOfShelf(s)
		freed.Base.Limbo = impl.LimboNew()
		freed.Base.Mem = mustFree(t, freed.Base.Mem, 0, 32)
		if impl.SafeNow(freed) || !slices.Equal(impl.Guarded(freed), []int{32}) {
			t.Error("a guarded handle is freed, and that is safe")
		}
		s = until(t, s, 1, 4)
		guarded(32)
		s = until(t, s, 2, impl.PcTell)
		guarded()
	}
}

// Different handles are guarded in ascending order, whichever worker guards them.
func TestGuardedInOrder(t *testing.T) {
	for _, l := range [][3]int{{33, 35, 37}, {37, 35, 33}, {35, 37, 33}, {37, 33, 37}, {0, 37, 33}} {
		s := someShelf(t)
		for w, h := range l {
			s.Jobs[w] = oddJob(impl.Op{Kind: impl.OpHaz}, 3)
			s.Jobs[w].H = h
		}
		checkTruths(t, s)
		for w, h := range l {
			s.Jobs[w] = oddJob(impl.Op{Kind: impl.OpSet}, 1+w)
			s.Jobs[w].H, s.Jobs[w].Old = h, h
		}
		s.Cells = []int{35, 35}
		checkTruths(t, s)
	}
}

func TestAccounted(t *testing.T) {
	s := someShelf(t)
	s.Base.Limbo = impl.LimboNew()
	s.Base.Limbo, _ = impl.RetireTo(s.Base.Limbo, 1, 36, 0)
	used := []int{33, 64, 35, 37, 104}
	s.Cells = used[:2]
	for w := range s.Jobs {
		s.Jobs[w] = oddJob(impl.Op{Kind: impl.OpSet}, 1+w)
		s.Jobs[w].H, s.Jobs[w].Old = used[2+w], 0
	}
	s.Jobs[2].H, s.Jobs[2].Old = 0, 104
	if !impl.Accounted(s) || !accountedWant(s) {
		t.Fatal("all handles are named")
	}
	for _, change := range []func(s *impl.Shelf){
		func(s *impl.Shelf) { s.Cells[0] = 0 },
		func(s *impl.Shelf) { s.Cells[1] = 33 },
		func(s *impl.Shelf) { s.Jobs[0].H = 36 },
		func(s *impl.Shelf) { s.Jobs[0].H = 67 },
		func(s *impl.Shelf) { s.Jobs[0].H = 66 },
		func(s *impl.Shelf) { s.Jobs[0].H = 204 },
		func(s *impl.Shelf) { s.Jobs[1].Pc = 3 },
		func(s *impl.Shelf) { s.Jobs[2].Pc = 2 },
		func(s *impl.Shelf) { s.Jobs[2].Pc = 4 },
		func(s *impl.Shelf) { s.Jobs[2].Op.Kind = impl.OpGet; s.Jobs[2].Op.Size = 0 },
		func(s *impl.Shelf) { s.Jobs[2] = impl.Job{} },
		func(s *impl.Shelf) { s.Base.Limbo[0].Rows = []impl.LRow{{Handle: 37, Epoch: 2}} },
		func(s *impl.Shelf) { s.Base.Mem = mustFree(t, s.Base.Mem, 0, 37) },
		func(s *impl.Shelf) { s.Base.Mem = mustAlloc(t, s.Base.Mem, 2, 8, 66) },
		func(s *impl.Shelf) { s.Base.Limbo = impl.LimboNew() },
	} {
		other := copyOfShelf(s)
		change(&other)
		if impl.Accounted(other) || !impl.ShelfOk(other) {
			t.Errorf("all handles are named in %+v", other)
		}
		checkTruths(t, other)
	}
}

func TestCellAt(t *testing.T) {
	swap := func(cell int, val int) impl.Ev {
		return impl.Ev{Kind: impl.EvSwap, Who: 1, Serial: val, Cell: cell, Handle: 32 + val, Val: val, Code: 3}
	}
	l := []impl.Ev{swap(0, 1), {Kind: impl.EvRead, Cell: 0, Handle: 33}, swap(1, 2), swap(0, 3), {Kind: impl.EvTell, Cell: 1}, {Kind: impl.EvCall}, swap(1, 4)}
	for cell, last := range map[int][]int{0: {-1, 0, 0, 0, 3, 3, 3, 3}, 1: {-1, -1, -1, 2, 2, 2, 2, 6}, 2: slices.Repeat([]int{-1}, 8), -1: slices.Repeat([]int{-1}, 8)} {
		for _, i := range []int{math.MinInt, -1, 0, 1, 2, 3, 4, 5, 6, 7, 8, 100, math.MaxInt} {
			want := impl.Ev{}
			if k := last[min(max(i, 0), 7)]; k >= 0 {
				want = l[k]
			}
			if got := impl.CellAt(l, i, cell); got != want {
				t.Errorf("CellAt(%d, %d) = %+v, want %+v", i, cell, got, want)
			}
		}
	}
	if impl.CellAt(nil, 5, 0) != (impl.Ev{}) {
		t.Error("an empty log has a swap")
	}
}

// truthWant follows the contents of the cells through the log.
func truthWant(l []impl.Ev) bool {
	cells, reads, then := map[int]impl.Ev{}, map[int]impl.Ev{}, map[int]impl.Ev{}
	for _, e := range l {
		switch e.Kind {
		case impl.EvSwap:
			cells[e.Cell] = e
		case impl.EvRead:
			reads[e.Serial], then[e.Serial] = e, cells[e.Cell]
		case impl.EvTell:
			r, is := reads[e.Serial]
			x := then[e.Serial]
			if is && e.Code == impl.CdOk && (x.Handle == 0 || x.Handle != r.Handle || x.Val != e.Val) {
				return false
			}
			if is && e.Code == impl.CdNone && (x.Handle != 0 || r.Handle != 0) {
				return false
			}
		}
	}
	return true
}

func TestTruthOf(t *testing.T) {
	swap := impl.Ev{Kind: impl.EvSwap, Serial: 1, Cell: 1, Handle: 40, Val: 6}
	read := impl.Ev{Kind: impl.EvRead, Who: 1, Serial: 2, Cell: 1, Handle: 40}
	tell := impl.Ev{Kind: impl.EvTell, Who: 1, Serial: 2, Cell: 1, Handle: 40, Val: 6}
	with := func(e impl.Ev, change func(e *impl.Ev)) impl.Ev {
		change(&e)
		return e
	}
	none := func(e *impl.Ev) { e.Code, e.Val = impl.CdNone, 0 }
	empty := func(e *impl.Ev) { e.Handle = 0 }
	for i, x := range []struct {
		l    []impl.Ev
		want bool
	}{
		{nil, true},
		{[]impl.Ev{tell}, true},
		{[]impl.Ev{tell, read}, true},
		{[]impl.Ev{swap, read, tell}, true},
		{[]impl.Ev{read, swap, tell}, false},
		{[]impl.Ev{read, tell}, false},
		{[]impl.Ev{with(read, empty), tell}, false},
		{[]impl.Ev{with(swap, empty), with(read, empty), tell}, false},
		{[]impl.Ev{swap, with(read, func(e *impl.Ev) { e.Handle = 41 }), tell}, false},
		{[]impl.Ev{swap, with(read, func(e *impl.Ev) { e.Cell = 0 }), tell}, false},
		{[]impl.Ev{swap, with(read, func(e *impl.Ev) { e.Serial = 3 }), tell}, true},
		{[]impl.Ev{swap, with(read, func(e *impl.Ev) { e.Who = 2 }), tell}, true},
		{[]impl.Ev{swap, read, with(tell, func(e *impl.Ev) { e.Val = 7 })}, false},
		{[]impl.Ev{swap, read, with(tell, func(e *impl.Ev) { e.Cell, e.Handle, e.Who = 0, 50, 2 })}, true},
		{[]impl.Ev{swap, read, with(tell, none)}, false},
		{[]impl.Ev{swap, with(read, empty), with(tell, none)}, false},
		{[]impl.Ev{read, with(tell, none)}, false},
		{[]impl.Ev{with(read, empty), with(tell, none)}, true},
		{[]impl.Ev{with(read, empty), swap, with(tell, none)}, true},
		{[]impl.Ev{swap, with(swap, empty), with(read, empty), with(tell, none)}, true},
		{[]impl.Ev{with(read, empty), swap, read, tell}, true},
		{[]impl.Ev{swap, read, with(read, empty), tell}, false},
		{[]impl.Ev{swap, read, tell, with(read, empty)}, true},
		{[]impl.Ev{swap, read, tell, with(swap, func(e *impl.Ev) { e.Val = 8 }), tell}, true},
		{[]impl.Ev{swap, read, with(swap, func(e *impl.Ev) { e.Val = 8 }), tell}, true},
		{[]impl.Ev{swap, with(swap, func(e *impl.Ev) { e.Cell = 0; e.Val = 8 }), read, tell}, true},
		{[]impl.Ev{swap, with(swap, func(e *impl.Ev) { e.Val = 8 }), read, tell}, false},
		{[]impl.Ev{swap, read, tell, with(tell, func(e *impl.Ev) { e.Val = 8 })}, false},
		{[]impl.Ev{read, with(tell, func(e *impl.Ev) { e.Val, e.Code = 3, impl.CdStall })}, true},
		{[]impl.Ev{read, with(tell, func(e *impl.Ev) { e.Val, e.Code = 3, 99 })}, true},
	} {
		if got := impl.TruthOf(x.l); got != x.want || truthWant(x.l) != x.want {
			t.Errorf("TruthOf of log %d is %t: %+v", i, got, x.l)
		}
	}
}

// TestTruthOfChangedLogs changes one number of a log of a schedule.
func TestTruthOfChangedLogs(t *testing.T) {
	lies := 0
	for x := range 40 {
		l := impl.Finish(impl.ShelfPlay(impl.Script{Todo: todoFrom(x), Picks: picksFrom(x, 150)})).Log
		for _, y := range spread(200, 1<<40) {
			other := slices.Clone(l)
			e := &other[y%len(other)]
			field := []*int{&e.Kind, &e.Serial, &e.Cell, &e.Handle, &e.Val, &e.Code}[y/1000%6]
			*field = []int{0, 1, *field + 1, 8, 3}[y/6000%5]
			want := truthWant(other)
			if got := impl.TruthOf(other); got != want {
				t.Fatalf("TruthOf of %+v is %t", other, got)
			}
			if !want {
				lies++
			}
		}
	}
	if lies < 300 {
		t.Error("only", lies, "logs are not true")
	}
}

// TestSafetyInEveryState checks promise 19 in every state of many schedules, and that these contain what can go wrong.
func TestSafetyInEveryState(t *testing.T) {
	codes, guarded, freed := map[int]int{}, 0, 0
	for x := range 300 {
		todo := todoFrom(x)
		if x%3 != 0 {
			todo = raceFrom(x)
		}
		s := impl.ShelfNew(todo)
		for _, w := range scheduleFrom(x) {
			s = impl.ShelfStep(s, w)
			if !impl.SafeNow(s) || !impl.Accounted(s) || !impl.Disjoint(impl.Ranges(s.Base)) {
				t.Fatalf("schedule %d is not safe: %+v", x, s)
			}
			for _, h := range impl.Guarded(s) {
				guarded++
				if impl.InLimbo(s.Base.Limbo, impl.HandleSlot(h)) {
					freed++
				}
			}
		}
		if !impl.TruthOf(s.Log) || !truthWant(s.Log) {
			t.Fatalf("the log of schedule %d is not true: %+v", x, s.Log)
		}
		for _, e := range impl.Tells(s) {
			codes[e.Code]++
		}
	}
	if guarded < 1000 || freed < 100 || codes[impl.CdStall] < 30 || codes[impl.CdNone] < 20 || codes[impl.CdOk] < 1000 {
		t.Errorf("%d handles are guarded, %d of them in limbo, the codes are %v", guarded, freed, codes)
	}
}

// TestOvertakenReaders stops a reader twice, at each of its steps, while a writer replaces the cell, collects and uses
// the freed slots again, and checks promise 19 in every state.
func TestOvertakenReaders(t *testing.T) {
	set, collect := impl.Op{Kind: impl.OpSet, Size: 8}, impl.Op{Kind: impl.OpCollect}
	write := []impl.Op{set, set, collect, collect, collect, collect, collect, set, set, collect, set, set}
	for i := range write {
		if write[i] == set {
			write[i].Val = 100 + i
		}
	}
	codes := map[int]int{}
	for _, read := range [][]impl.Op{{{Kind: impl.OpGet}}, {{Kind: impl.OpHaz}}, {{Kind: impl.OpPin}, {Kind: impl.OpPeek}, {Kind: impl.OpPeek}}} {
		for first := range 12 {
			for _, ops := range []int{0, 1, 2, 4, 6, 8} {
				for second := 0; second < 12; second += 2 {
					s := overtake(t, impl.ShelfNew(todoOf(write, read, nil)), first, ops, second)
					if !impl.Idle(s) || !impl.TruthOf(s.Log) {
						t.Fatalf("the log after %d, %d and %d is not true: %+v", first, ops, second, s.Log)
					}
					for _, e := range impl.Tells(s) {
						if e.Who == 1 {
							codes[e.Code]++
						}
					}
				}
			}
		}
	}
	if codes[impl.CdOk] < 500 || codes[impl.CdStall] < 100 {
		t.Error("the readers tell", codes)
	}
}

// overtake lets worker 0 perform an operation, worker 1 the first steps, worker 0 that many operations,
// worker 1 the second steps, and then worker 0 and at last worker 1 the rest.
func overtake(t *testing.T, s impl.Shelf, first int, ops int, second int) impl.Shelf {
	t.Helper()
	takes := func(w int, steps int, left int) {
		for range steps {
			if !s.Jobs[w].Busy && len(s.Todo[w].Ops) <= left {
				return
			}
			s = impl.ShelfStep(s, w)
			if !impl.SafeNow(s) || !impl.Accounted(s) {
				t.Fatalf("a state after %d, %d and %d is not safe: %+v", first, ops, second, s)
			}
		}
	}
	all := len(s.Todo[0].Ops)
	takes(0, 1000, all-1)
	takes(1, first, 0)
	takes(0, 1000, all-1-ops)
	takes(1, second, 0)
	takes(0, 1000, 0)
	takes(1, 1000, 0)
	return s
}

// raceFrom returns a workload in which one worker replaces the cell 0 and collects while another one reads it.
func raceFrom(x int) []impl.Queue {
	todo := todoOf(nil, nil, nil)
	for i, y := range spread(12+x, 1<<40)[x:] {
		set := impl.Op{Kind: impl.OpSet, Cell: 0, Size: 8, Val: 100*x + i}
		collect := impl.Op{Kind: impl.OpCollect}
		write := []impl.Op{set, set, collect, collect, collect}[y%5]
		read := impl.Op{Kind: []int{impl.OpGet, impl.OpHaz, impl.OpGet, impl.OpHaz, impl.OpPin, impl.OpPeek, impl.OpPeek, impl.OpUnpin}[y/5%8]}
		todo[0].Ops = append(todo[0].Ops, write)
		todo[1].Ops = append(todo[1].Ops, read)
		todo[2].Ops = append(todo[2].Ops, []impl.Op{collect, set, read}[y/40%3])
	}
	todo[0].Ops[0] = impl.Op{Kind: impl.OpSet, Cell: 0, Size: 8, Val: 100*x + 50}
	return todo
}

// scheduleFrom returns picks in which a worker sometimes sleeps for long, so that others overtake it.
func scheduleFrom(x int) []int {
	var picks []int
	asleep := 0
	for i, y := range spread(700+x, 1<<40)[x:] {
		if i%(20+x%50) == 0 {
			asleep = y / 3 % 4
		}
		if w := y % 3; w != asleep {
			picks = append(picks, w)
		}
	}
	return picks
}

func TestTruthsArePure(t *testing.T) {
	shelves := append(everyNth(badShelves(t), 9), someShelf(t))
	for x := range 6 {
		shelves = append(shelves, impl.ShelfPlay(impl.Script{Todo: todoFrom(x), Picks: picksFrom(x, 40+20*x)}))
	}
	two := someShelf(t)
	two.Jobs[0], two.Jobs[1] = oddJob(impl.Op{Kind: impl.OpHaz}, 3), oddJob(impl.Op{Kind: impl.OpSet}, 2)
	all := pool(append(shelves, two)...)
	logs := pool(nil, shelves[len(shelves)-1].Log, shelves[len(shelves)-2].Log)
	pureOverAll(t, impl.Guarded, all)
	pureOverAll(t, impl.SafeNow, all)
	pureOverAll(t, impl.Named, all)
	pureOverAll(t, impl.Accounted, all)
	pureOverAll(t, impl.TruthOf, logs)
	pureOverAll(t, impl.CellAt, logs, pool(-1, 0, 7, 1000), pool(-1, 0, 1))
}
