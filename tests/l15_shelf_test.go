package tests

import (
	"math"
	"slices"
	"testing"

	"loop.example/g01538/impl"
)

func todoOf(ops ...[]impl.Op) []impl.Queue {
	todo := make([]impl.Queue, len(ops))
	for w, l := range ops {
		todo[w].Ops = l
	}
	return todo
}

func copyOfTodo(todo []impl.Queue) []impl.Queue {
	next := make([]impl.Queue, len(todo))
	for w, queue := range todo {
		next[w].Ops = slices.Clone(queue.Ops)
	}
	return next
}

func copyOfShelf(s impl.Shelf) impl.Shelf {
	return impl.Shelf{
		Base: copyOfBase(s.Base), Cells: slices.Clone(s.Cells), Jobs: slices.Clone(s.Jobs), Todo: copyOfTodo(s.Todo),
		Log: slices.Clone(s.Log), Serial: s.Serial,
	}
}

// opWant is the validity of an operation as the document describes it.
func opWant(o impl.Op) bool {
	if o.Kind < 1 || o.Kind > 7 {
		return false
	}
	cells, sizes, vals := 0, 0, 0
	if slices.Contains([]int{1, 2, 3, 7}, o.Kind) {
		cells = 1
	}
	if o.Kind == 1 {
		sizes, vals = 100, 65535
	}
	return o.Cell >= 0 && o.Cell <= cells && o.Size >= 0 && o.Size <= sizes && o.Val >= 0 && o.Val <= vals
}

// everyOp returns an operation of each kind, and of each cell where there is one.
func everyOp() []impl.Op {
	return []impl.Op{
		{Kind: impl.OpSet, Size: 8, Val: 500}, {Kind: impl.OpSet, Cell: 1, Size: 100, Val: 65535}, {Kind: impl.OpGet}, {Kind: impl.OpGet, Cell: 1},
		{Kind: impl.OpHaz}, {Kind: impl.OpHaz, Cell: 1}, {Kind: impl.OpCollect}, {Kind: impl.OpPin}, {Kind: impl.OpUnpin},
		{Kind: impl.OpPeek}, {Kind: impl.OpPeek, Cell: 1},
	}
}

// someShelf returns a shelf whose worker 0 has a pin that protects, worker 2 a marked one, and worker 1 none.
// 33 and 35 are Valid, 37 too; 64 is in limbo. The cell 1 is empty.
func someShelf(t *testing.T) impl.Shelf {
	t.Helper()
	s := impl.Shelf{
		Base:   someBase(t),
		Cells:  []int{33, 0},
		Jobs:   make([]impl.Job, 3),
		Todo:   todoOf([]impl.Op{{Kind: impl.OpPeek}}, everyOp(), []impl.Op{{Kind: impl.OpUnpin}}),
		Log:    []impl.Ev{{Kind: impl.EvSwap, Serial: 1, Handle: 33, Val: 9}},
		Serial: 40,
	}
	s.Base.Mem, _ = impl.StoreIn(s.Base.Mem, 33, 0, 7, 0x01020304050607)
	s.Base.Mem, _ = impl.StoreIn(s.Base.Mem, 37, 0, 4, 4000000000)
	s.Base.Mem, _ = impl.StoreIn(s.Base.Mem, 64, 0, 4, 77)
	if !impl.ShelfOk(s) {
		t.Fatal("a valid shelf is refused:", s)
	}
	return s
}

// oddJob returns a job whose other fields have values that no step gives them.
func oddJob(o impl.Op, pc int) impl.Job {
	return impl.Job{Busy: true, Op: o, Serial: 23, Pc: pc, Sub: odd(99, 98, 97), H: 37, Old: 35, Val: 78, Code: impl.CdClash}
}

// goes checks that a step of the job of worker w leads to the job to, and changes the shelf as change does.
func goes(t *testing.T, s impl.Shelf, w int, job impl.Job, to impl.Job, change func(s *impl.Shelf)) {
	t.Helper()
	s = copyOfShelf(s)
	s.Jobs[w] = job
	want := copyOfShelf(s)
	want.Jobs[w] = to
	if change != nil {
		change(&want)
	}
	next := impl.ShelfStep(s, w)
	if len(next.Jobs) != 3 || next.Jobs[w] != to {
		t.Errorf("the step of worker %d and %+v gives %+v, want %+v", w, job, next.Jobs, to)
		return
	}
	if !impl.SameShelf(next, want) || !impl.ShelfOk(next) {
		t.Errorf("the step of worker %d and %+v gives %+v, want %+v", w, job, next, want)
	}
}

// at returns the job with another Pc and code.
func at(job impl.Job, pc int, code int) impl.Job {
	job.Pc, job.Code = pc, code
	return job
}

func reported(job impl.Job, code int) impl.Job {
	return at(job, 9, code)
}

func TestShelfConstants(t *testing.T) {
	if impl.CellMost != 2 || impl.MaxOps != 12 || impl.MaxSerial != 1000000 || impl.PcTell != 9 {
		t.Error("the limits are", impl.CellMost, impl.MaxOps, impl.MaxSerial, impl.PcTell)
	}
	if impl.EvCall != 1 || impl.EvSwap != 2 || impl.EvRead != 3 || impl.EvTell != 4 {
		t.Error("the events are", impl.EvCall, impl.EvSwap, impl.EvRead, impl.EvTell)
	}
}

func TestOpOk(t *testing.T) {
	some := []int{math.MinInt, -1, 0, 1, 2, 50, 100, 101, 65535, 65536, math.MaxInt}
	for kind := -1; kind <= 8; kind++ {
		for _, cell := range some {
			for _, size := range some {
				for _, val := range some {
					o := impl.Op{Kind: kind, Cell: cell, Size: size, Val: val}
					if got := impl.OpOk(o); got != opWant(o) {
						t.Fatalf("OpOk(%+v) = %t", o, got)
					}
				}
			}
		}
	}
	for _, kind := range manyInts() {
		if impl.OpOk(impl.Op{Kind: kind}) {
			t.Errorf("kind %d is accepted", kind)
		}
	}
}

func TestOpWord(t *testing.T) {
	words := []string{"", "set", "get", "haz", "collect", "pin", "unpin", "peek", "", ""}
	kinds := []int{0, impl.OpSet, impl.OpGet, impl.OpHaz, impl.OpCollect, impl.OpPin, impl.OpUnpin, impl.OpPeek, 8, 9}
	for i, kind := range kinds {
		if kind != i || impl.OpWord(kind) != words[i] {
			t.Errorf("kind %d is %d with the word %q", i, kind, impl.OpWord(kind))
		}
	}
	for _, kind := range manyInts() {
		if word := impl.OpWord(kind); word != "" {
			t.Errorf("kind %d has the word %q", kind, word)
		}
	}
}

// badTodos returns invalid workloads.
func badTodos() [][]impl.Queue {
	full := slices.Repeat([]impl.Op{{Kind: impl.OpPin}}, 12)
	bad := [][]impl.Queue{nil, {}, todoOf(nil), todoOf(nil, nil), todoOf(nil, nil, nil, nil)}
	for w := range impl.Workers {
		long := todoOf(full, full, full)
		long[w].Ops = append(slices.Clone(full), impl.Op{Kind: impl.OpPin})
		bad = append(bad, long)
		for _, o := range []impl.Op{{}, {Kind: 8}, {Kind: impl.OpSet, Size: 101}, {Kind: impl.OpGet, Val: 1}, {Kind: impl.OpUnpin, Cell: 1}} {
			for _, i := range []int{0, 11} {
				todo := todoOf(slices.Clone(full), slices.Clone(full), slices.Clone(full))
				todo[w].Ops[i] = o
				bad = append(bad, todo)
			}
		}
	}
	return bad
}

func TestShelfNew(t *testing.T) {
	full := slices.Repeat(everyOp(), 2)[:12]
	for _, todo := range [][]impl.Queue{todoOf(nil, nil, nil), todoOf(full, full, full), todoOf(nil, everyOp(), nil)} {
		s := impl.ShelfNew(todo)
		want := impl.Shelf{Base: impl.BaseNew(), Cells: []int{0, 0}, Jobs: make([]impl.Job, 3), Todo: todo}
		if !impl.SameShelf(s, want) || !impl.ShelfOk(s) {
			t.Errorf("ShelfNew of %v is %v", todo, s)
		}
	}
	for _, todo := range badTodos() {
		if s := impl.ShelfNew(todo); !impl.SameShelf(s, impl.Shelf{}) || impl.ShelfOk(s) {
			t.Errorf("ShelfNew of the invalid workload %v is %v", todo, s)
		}
	}
}

// badShelves returns shelves that are invalid for one reason each.
func badShelves(t *testing.T) []impl.Shelf {
	var bad []impl.Shelf
	with := func(change func(s *impl.Shelf)) {
		s := copyOfShelf(someShelf(t))
		change(&s)
		bad = append(bad, s)
	}
	for _, b := range everyNth(badBases(t), 7) {
		with(func(s *impl.Shelf) { s.Base = b })
	}
	for _, cells := range [][]int{nil, {33}, {33, 0, 0}, {33, 1}, {31, 0}, {-33, 0}, {0, 224}, {0, math.MaxInt}} {
		with(func(s *impl.Shelf) { s.Cells = cells })
	}
	for _, todo := range badTodos() {
		with(func(s *impl.Shelf) { s.Todo = todo })
	}
	for _, serial := range []int{math.MinInt, -1, 1000001, math.MaxInt} {
		with(func(s *impl.Shelf) { s.Serial = serial })
	}
	for _, n := range []int{0, 1, 2, 4} {
		with(func(s *impl.Shelf) { s.Jobs = make([]impl.Job, n) })
	}
	good := oddJob(everyOp()[0], 1)
	for _, job := range []impl.Job{
		{Serial: 1}, {Pc: 1}, {H: 33}, {Old: 33}, {Val: 1}, {Code: 1}, {Op: everyOp()[0]}, {Sub: impl.SubNew(1, 1)}, {Sub: impl.Sub{Done: true}},
		{Busy: true}, {Busy: true, Op: impl.Op{Kind: 8}}, {Busy: true, Op: impl.Op{Kind: impl.OpPin, Cell: 1}},
		{Busy: true, Op: good.Op, H: 1}, {Busy: true, Op: good.Op, H: -33}, {Busy: true, Op: good.Op, Old: 31}, {Busy: true, Op: good.Op, Old: 224},
	} {
		for w := range impl.Workers {
			with(func(s *impl.Shelf) { s.Jobs[w] = job })
		}
	}
	return append(bad, impl.Shelf{})
}

func TestShelfOk(t *testing.T) {
	for i, s := range badShelves(t) {
		if impl.ShelfOk(s) {
			t.Errorf("invalid shelf %d is accepted: %+v", i, s)
		}
	}
	for _, change := range []func(s *impl.Shelf){
		func(s *impl.Shelf) { s.Serial = 0 },
		func(s *impl.Shelf) { s.Serial = 1000000 },
		func(s *impl.Shelf) { s.Cells = []int{215, 38} },
		func(s *impl.Shelf) { s.Log = nil },
		func(s *impl.Shelf) { s.Log = []impl.Ev{{Kind: -5, Who: 77, Serial: -1}} },
		func(s *impl.Shelf) {
			for w := range s.Jobs {
				s.Jobs[w] = oddJob(everyOp()[w], -w)
			}
		},
		func(s *impl.Shelf) {
			s.Jobs[1] = impl.Job{Busy: true, Op: everyOp()[3], Serial: -9, Pc: math.MinInt, H: 0, Old: 0, Val: -1, Code: 99}
		},
	} {
		s := someShelf(t)
		change(&s)
		if !impl.ShelfOk(s) {
			t.Errorf("a valid shelf is refused: %+v", s)
		}
	}
}

func TestShelfStepRefuses(t *testing.T) {
	for i, s := range badShelves(t) {
		for w := range impl.Workers {
			if next := impl.ShelfStep(s, w); !impl.SameShelf(next, s) {
				t.Errorf("the step of worker %d changes the invalid shelf %d to %+v", w, i, next)
			}
		}
	}
	for _, w := range []int{math.MinInt, -1, 3, math.MaxInt} {
		if next := impl.ShelfStep(someShelf(t), w); !impl.SameShelf(next, someShelf(t)) {
			t.Errorf("there is a worker %d: %+v", w, next)
		}
	}
}

func TestNothingToDo(t *testing.T) {
	for w := range impl.Workers {
		empty := someShelf(t)
		empty.Todo[w].Ops = nil
		goes(t, empty, w, impl.Job{}, impl.Job{}, nil)
		last := someShelf(t)
		last.Serial = impl.MaxSerial
		goes(t, last, w, impl.Job{}, impl.Job{}, nil)
	}
}

func TestStartOfJobs(t *testing.T) {
	for _, o := range everyOp() {
		for w := range impl.Workers {
			s := someShelf(t)
			s.Todo[w].Ops = []impl.Op{o, {Kind: impl.OpPin}}
			s.Serial = impl.MaxSerial - 1
			job := impl.Job{Busy: true, Op: o, Serial: impl.MaxSerial}
			switch o.Kind {
			case impl.OpSet:
				job.Sub = impl.Sub{Kind: impl.SbAlloc, A: o.Size}
			case impl.OpGet, impl.OpPin:
				job.Sub = impl.Sub{Kind: impl.SbPin}
				// A marked pin is On, too.
				if w != 1 {
					job = reported(job, impl.CdArgs)
				}
			case impl.OpCollect:
				job.Sub = impl.Sub{Kind: impl.SbAdvance}
			}
			goes(t, s, w, impl.Job{}, job, func(s *impl.Shelf) {
				s.Serial++
				s.Todo[w].Ops = []impl.Op{{Kind: impl.OpPin}}
				s.Log = append(s.Log, impl.Ev{Kind: impl.EvCall, Who: w, Serial: impl.MaxSerial, Cell: o.Cell})
			})
		}
	}
}

func TestTell(t *testing.T) {
	for _, o := range everyOp() {
		for w := range impl.Workers {
			for _, code := range []int{impl.CdOk, impl.CdStall, 99} {
				goes(t, someShelf(t), w, reported(oddJob(o, 0), code), impl.Job{}, func(s *impl.Shelf) {
					s.Log = append(s.Log, impl.Ev{Kind: impl.EvTell, Who: w, Serial: 23, Cell: o.Cell, Handle: 37, Val: 78, Code: code})
				})
			}
		}
	}
}

func TestUnknownPc(t *testing.T) {
	last := map[int]int{impl.OpSet: 3, impl.OpGet: 4, impl.OpHaz: 4, impl.OpPeek: 2, impl.OpCollect: 1, impl.OpPin: 0, impl.OpUnpin: 0}
	for _, o := range everyOp() {
		for _, pc := range []int{math.MinInt, -1, 1, 2, 3, 4, 5, 6, 7, 8, 10, math.MaxInt} {
			if pc < 0 || pc > last[o.Kind] {
				for w := range impl.Workers {
					goes(t, someShelf(t), w, oddJob(o, pc), reported(oddJob(o, pc), impl.CdArgs), nil)
				}
			}
		}
	}
}

func TestSetAllocates(t *testing.T) {
	set := impl.Op{Kind: impl.OpSet, Cell: 1, Size: 8, Val: 500}
	runs := func(w int, sub impl.Sub, to impl.Job) {
		t.Helper()
		job := oddJob(set, 0)
		job.Sub = sub
		s := someShelf(t)
		b, after := impl.SubStep(s.Base, w, sub)
		to.Sub = after
		goes(t, s, w, job, to, func(s *impl.Shelf) { s.Base = b })
	}
	job := oddJob(set, 0)
	got := func(h int) impl.Job {
		to := at(job, 1, impl.CdOk)
		to.H = h
		return to
	}
	runs(1, impl.SubNew(impl.SbAlloc, 8), job)
	runs(1, impl.Sub{Kind: impl.SbAlloc, A: 8, Pc: 1}, job)
	runs(2, impl.SubNew(impl.SbAlloc, 8), got(66))
	runs(1, impl.Sub{Kind: impl.SbAlloc, A: 16, Pc: 2}, got(48))
	runs(1, impl.Sub{Kind: impl.SbAlloc, A: 8, Pc: 3}, reported(job, impl.CdFull))
	runs(1, impl.SubNew(impl.SbAlloc, 41), reported(job, impl.CdSize))
	runs(1, impl.Sub{Kind: impl.SbAlloc, A: 8, Pc: 7}, reported(job, impl.CdArgs))
	// An operation that is done before the step is not changed by it.
	runs(0, impl.Sub{Kind: 1, Out: 35, Done: true}, got(35))
	runs(0, impl.Sub{Kind: 1, Out: 35, Code: impl.CdNone, Done: true}, reported(job, impl.CdNone))
	for _, out := range []int{math.MinInt, -33, -1, 0, 1, 31, 56, 224, math.MaxInt} {
		runs(0, impl.Sub{Kind: 1, Out: out, Done: true}, reported(job, impl.CdArgs))
		runs(0, impl.Sub{Kind: 1, Out: out, Code: impl.CdFull, Done: true}, reported(job, impl.CdFull))
	}
}

func TestSetStores(t *testing.T) {
	set := impl.Op{Kind: impl.OpSet, Cell: 1, Size: 8, Val: 65535}
	for w := range impl.Workers {
		for _, h := range []int{33, 35, 37, 64} {
			job := oddJob(set, 1)
			job.H = h
			goes(t, someShelf(t), w, job, at(job, 2, impl.CdOk), func(s *impl.Shelf) {
				from := impl.StartOf(h%32, impl.ClassAt(s.Base.Mem.Heap, h%32))
				copy(s.Base.Mem.Heap.Bytes[from:], []int{0, 0, 255, 255})
			})
		}
		for _, h := range []int{0, 32, 66, 204, 48} {
			job := oddJob(set, 1)
			job.H = h
			goes(t, someShelf(t), w, job, reported(job, impl.CdStale), nil)
		}
	}
}

func TestSetSwaps(t *testing.T) {
	for w := range impl.Workers {
		for cell := range 2 {
			for _, h := range []int{37, 0} {
				job := oddJob(impl.Op{Kind: impl.OpSet, Cell: cell, Size: 8, Val: 500}, 2)
				job.H = h
				to := at(job, 3, impl.CdOk)
				to.Old, to.Sub = 33, impl.Sub{Kind: impl.SbRetire, A: 33}
				if cell == 1 {
					to = reported(job, impl.CdOk)
					to.Old = 0
				}
				goes(t, someShelf(t), w, job, to, func(s *impl.Shelf) {
					s.Cells[cell] = h
					s.Log = append(s.Log, impl.Ev{Kind: impl.EvSwap, Who: w, Serial: 23, Cell: cell, Handle: h, Val: 500})
				})
			}
		}
	}
}

func TestSetRetires(t *testing.T) {
	job := oddJob(impl.Op{Kind: impl.OpSet, Size: 8, Val: 500}, 3)
	runs := func(w int, sub impl.Sub, to impl.Job) {
		t.Helper()
		job.Sub = sub
		s := someShelf(t)
		b, after := impl.SubStep(s.Base, w, sub)
		to.Sub = after
		goes(t, s, w, job, to, func(s *impl.Shelf) { s.Base = b })
	}
	for w := range impl.Workers {
		runs(w, impl.SubNew(impl.SbRetire, 35), job)
		runs(w, impl.Sub{Kind: impl.SbRetire, A: 35, Pc: 1, E: 5}, reported(job, impl.CdOk))
		runs(w, impl.Sub{Kind: impl.SbRetire, A: 35, Pc: 1, E: 6}, reported(job, impl.CdArgs))
		runs(w, impl.Sub{Kind: impl.SbRetire, A: 64, Pc: 1, E: 5}, reported(job, impl.CdStale))
		runs(w, impl.Sub{Done: true, Code: 99}, reported(job, 99))
	}
}

func TestGetPins(t *testing.T) {
	for _, o := range []impl.Op{{Kind: impl.OpGet, Cell: 1}, {Kind: impl.OpPin}} {
		job := oddJob(o, 0)
		done := at(job, 1, impl.CdOk)
		runs := func(w int, sub impl.Sub, to impl.Job, code int) {
			t.Helper()
			// The pin's code is that of the job of OpPin; OpGet goes on whatever it is.
			if to.Pc == 1 && o.Kind == impl.OpPin {
				to = reported(job, code)
			}
			job.Sub = sub
			s := someShelf(t)
			b, after := impl.SubStep(s.Base, w, sub)
			to.Sub = after
			goes(t, s, w, job, to, func(s *impl.Shelf) { s.Base = b })
		}
		for w := range impl.Workers {
			runs(w, impl.SubNew(impl.SbPin, 0), job, 0)
			runs(w, impl.Sub{Kind: impl.SbPin, Pc: 1, E: 4}, job, 0)
			runs(w, impl.Sub{Kind: impl.SbPin, Pc: 2, E: 4}, job, 0)
			runs(w, impl.Sub{Kind: impl.SbPin, Pc: 2, E: 5}, done, impl.CdOk)
			runs(w, impl.Sub{Kind: impl.SbPin, Pc: 1, E: 6}, done, impl.CdArgs)
			runs(w, impl.Sub{Done: true, Code: impl.CdFull}, done, impl.CdFull)
		}
	}
}

func TestGetReadsTheCell(t *testing.T) {
	for w := range impl.Workers {
		for cell := range 2 {
			job := oddJob(impl.Op{Kind: impl.OpGet, Cell: cell}, 1)
			to := at(job, 2, impl.CdOk)
			to.H = 33
			if cell == 1 {
				to = at(job, 4, impl.CdNone)
				to.H = 0
			}
			goes(t, someShelf(t), w, job, to, func(s *impl.Shelf) {
				s.Log = append(s.Log, impl.Ev{Kind: impl.EvRead, Who: w, Serial: 23, Cell: cell, Handle: to.H})
			})
		}
	}
}

func TestLoads(t *testing.T) {
	for kind, pc := range map[int]int{impl.OpGet: 2, impl.OpHaz: 3, impl.OpPeek: 1} {
		for w := range impl.Workers {
			// Stale handles of a carved slot are loaded as well; the slot of 38 is not carved.
			for h, val := range map[int]int{33: 0x01020304, 65: 0x01020304, 37: 4000000000, 64: 77, 32: 77, 0: 0, 38: 0, 215: 0} {
				job := oddJob(impl.Op{Kind: kind, Cell: w % 2}, pc)
				job.H = h
				to := at(job, pc+1, impl.CdOk)
				to.Val = val
				goes(t, someShelf(t), w, job, to, nil)
			}
		}
	}
}

func TestChecksOfPins(t *testing.T) {
	for w := range impl.Workers {
		get, peek := oddJob(impl.Op{Kind: impl.OpGet}, 3), oddJob(impl.Op{Kind: impl.OpPeek}, 2)
		toGet, toPeek := at(get, 4, impl.CdOk), reported(peek, impl.CdOk)
		if w != 0 {
			toGet, toPeek = at(get, 4, impl.CdStall), reported(peek, impl.CdStall)
			toGet.Val, toPeek.Val = 0, 0
		}
		goes(t, someShelf(t), w, get, toGet, nil)
		goes(t, someShelf(t), w, peek, toPeek, nil)
	}
}

func TestUnpins(t *testing.T) {
	for w := range impl.Workers {
		for _, code := range []int{impl.CdOk, impl.CdNone, impl.CdStall} {
			get := at(oddJob(impl.Op{Kind: impl.OpGet}, 4), 4, code)
			goes(t, someShelf(t), w, get, reported(get, code), func(s *impl.Shelf) { s.Base.Clock.Pins[w] = impl.Pin{} })
		}
		unpin := oddJob(impl.Op{Kind: impl.OpUnpin}, 0)
		code := impl.CdOk
		if w == 1 {
			code = impl.CdGuard
		}
		goes(t, someShelf(t), w, unpin, reported(unpin, code), func(s *impl.Shelf) { s.Base.Clock.Pins[w] = impl.Pin{} })
	}
}

func TestHazReadsTheCell(t *testing.T) {
	for w := range impl.Workers {
		full, empty := impl.Op{Kind: impl.OpHaz}, impl.Op{Kind: impl.OpHaz, Cell: 1}
		to := at(oddJob(full, 0), 1, impl.CdOk)
		to.H = 33
		goes(t, someShelf(t), w, oddJob(full, 0), to, nil)
		to = at(oddJob(empty, 0), 4, impl.CdNone)
		to.H = 0
		goes(t, someShelf(t), w, oddJob(empty, 0), to, func(s *impl.Shelf) {
			s.Log = append(s.Log, impl.Ev{Kind: impl.EvRead, Who: w, Serial: 23, Cell: 1})
		})
		job := oddJob(full, 1)
		goes(t, someShelf(t), w, job, at(job, 2, impl.CdOk), func(s *impl.Shelf) { s.Base.Haz[w] = 37 })
		job.H = 0
		goes(t, someShelf(t), w, job, at(job, 2, impl.CdOk), nil)
	}
}

func TestHazReadsTheCellAgain(t *testing.T) {
	for w := range impl.Workers {
		for cell := range 2 {
			for _, h := range []int{0, 33, 65, 37} {
				s := someShelf(t)
				job := oddJob(impl.Op{Kind: impl.OpHaz, Cell: cell}, 2)
				job.H = h
				if s.Cells[cell] != h {
					goes(t, s, w, job, at(job, 0, impl.CdOk), nil)
					continue
				}
				goes(t, s, w, job, at(job, 3, impl.CdOk), func(s *impl.Shelf) {
					s.Log = append(s.Log, impl.Ev{Kind: impl.EvRead, Who: w, Serial: 23, Cell: cell, Handle: h})
				})
			}
		}
		for _, code := range []int{impl.CdOk, impl.CdNone} {
			job := at(oddJob(impl.Op{Kind: impl.OpHaz}, 4), 4, code)
			goes(t, someShelf(t), w, job, reported(job, code), func(s *impl.Shelf) { s.Base.Haz[w] = 0 })
		}
	}
}

func TestPeekReadsTheCell(t *testing.T) {
	for cell := range 2 {
		job := oddJob(impl.Op{Kind: impl.OpPeek, Cell: cell}, 0)
		goes(t, someShelf(t), 1, job, reported(job, impl.CdGuard), nil)
		goes(t, someShelf(t), 2, job, reported(job, impl.CdStall), nil)
		to := at(job, 1, impl.CdOk)
		to.H = 33
		if cell == 1 {
			to = reported(job, impl.CdNone)
			to.H = 0
		}
		goes(t, someShelf(t), 0, job, to, func(s *impl.Shelf) {
			s.Log = append(s.Log, impl.Ev{Kind: impl.EvRead, Who: 0, Serial: 23, Cell: cell, Handle: to.H})
		})
	}
}

func TestCollectJobs(t *testing.T) {
	runs := func(w int, pc int, sub impl.Sub, done bool) {
		t.Helper()
		job := oddJob(impl.Op{Kind: impl.OpCollect}, pc)
		job.Sub = sub
		s := someShelf(t)
		b, after := impl.SubStep(s.Base, w, sub)
		to := job
		to.Sub = after
		if done && pc == 0 {
			to = at(job, 1, impl.CdOk)
			to.Sub = impl.Sub{Kind: impl.SbCollect}
		} else if done {
			to = reported(to, after.Code)
			to.Val = after.Out
		}
		goes(t, s, w, job, to, func(s *impl.Shelf) { s.Base = b })
	}
	for w := range impl.Workers {
		for pc := range 2 {
			runs(w, pc, impl.SubNew(impl.SbAdvance, 0), false)
			runs(w, pc, impl.Sub{Kind: impl.SbAdvance, Pc: 1, E: 5}, true)
			runs(w, pc, impl.Sub{Kind: impl.SbAdvance, Pc: 1, B: 1, E: 5}, false)
			runs(w, pc, impl.Sub{Kind: impl.SbAdvance, Pc: 2, E: 5}, true)
			runs(w, pc, impl.Sub{Kind: impl.SbAdvance, Pc: 2, E: 4}, true)
			runs(w, pc, impl.SubNew(impl.SbCollect, 0), false)
			runs(w, pc, impl.Sub{Kind: impl.SbCollect, Pc: 1, E: 5, Out: 4}, w != 2)
			runs(w, pc, impl.Sub{Out: 5, Code: 6, Done: true}, true)
		}
	}
	runs(2, 1, impl.Sub{Kind: impl.SbCollect, Pc: 3, E: 5, H: 64}, false)
}

func TestIdle(t *testing.T) {
	if !impl.Idle(impl.Shelf{}) || !impl.Idle(impl.ShelfNew(todoOf(nil, nil, nil))) || impl.Idle(someShelf(t)) {
		t.Error("a shelf without work is idle, one with work is not")
	}
	for w := range 5 {
		s := impl.Shelf{Jobs: make([]impl.Job, 5), Todo: make([]impl.Queue, 5)}
		s.Jobs[w].Val = 4
		if !impl.Idle(s) {
			t.Error("a job that is not Busy is no work")
		}
		s.Jobs[w] = impl.Job{Busy: true}
		if impl.Idle(s) {
			t.Errorf("the job of worker %d is work", w)
		}
		s.Jobs[w] = impl.Job{}
		s.Todo[w].Ops = []impl.Op{{}}
		if impl.Idle(s) {
			t.Errorf("the queue of worker %d is work", w)
		}
	}
}

func TestSameShelf(t *testing.T) {
	good := someShelf(t)
	good.Jobs[1] = oddJob(everyOp()[0], 1)
	if !impl.SameShelf(good, copyOfShelf(good)) || !impl.SameShelf(impl.Shelf{}, impl.Shelf{Cells: []int{}, Log: []impl.Ev{}}) {
		t.Error("equal shelves differ")
	}
	others := append(badShelves(t), someShelf(t), impl.ShelfNew(todoOf(nil, nil, nil)))
	for _, change := range []func(s *impl.Shelf){
		func(s *impl.Shelf) { s.Base = impl.BaseNew() },
		func(s *impl.Shelf) { s.Cells[1] = 33 },
		func(s *impl.Shelf) { s.Jobs[1].Busy = false },
		func(s *impl.Shelf) { s.Jobs[1].Op.Val++ },
		func(s *impl.Shelf) { s.Jobs[1].Serial++ },
		func(s *impl.Shelf) { s.Jobs[1].Pc++ },
		func(s *impl.Shelf) { s.Jobs[1].Sub.Out++ },
		func(s *impl.Shelf) { s.Jobs[1].H++ },
		func(s *impl.Shelf) { s.Jobs[1].Old++ },
		func(s *impl.Shelf) { s.Jobs[1].Val++ },
		func(s *impl.Shelf) { s.Jobs[1].Code++ },
		func(s *impl.Shelf) { s.Todo[1].Ops = s.Todo[1].Ops[1:] },
		func(s *impl.Shelf) { s.Todo[1].Ops[2].Cell = 1 },
		func(s *impl.Shelf) { s.Todo[0], s.Todo[2] = s.Todo[2], s.Todo[0] },
		func(s *impl.Shelf) { s.Log = nil },
		func(s *impl.Shelf) { s.Log[0].Code++ },
		func(s *impl.Shelf) { s.Log = append(s.Log, impl.Ev{}) },
		func(s *impl.Shelf) { s.Serial++ },
	} {
		other := copyOfShelf(good)
		change(&other)
		others = append(others, other)
	}
	for i, other := range others {
		if impl.SameShelf(good, other) || impl.SameShelf(other, good) {
			t.Errorf("another shelf (%d) is the same: %+v", i, other)
		}
	}
}

// play performs a step of each of these workers.
func play(s impl.Shelf, workers ...int) impl.Shelf {
	for _, w := range workers {
		s = impl.ShelfStep(s, w)
	}
	return s
}

// until performs steps of the worker until its job has this Pc.
func until(t *testing.T, s impl.Shelf, w int, pc int) impl.Shelf {
	t.Helper()
	for range 30 {
		s = impl.ShelfStep(s, w)
		if s.Jobs[w].Busy && s.Jobs[w].Pc == pc {
			return s
		}
	}
	t.Fatalf("worker %d does not come to %d: %+v", w, pc, s.Jobs[w])
	return s
}

// told performs steps of the worker until its job is reported and told, and returns the event.
func told(t *testing.T, s impl.Shelf, w int) (impl.Shelf, impl.Ev) {
	t.Helper()
	s = impl.ShelfStep(until(t, s, w, impl.PcTell), w)
	e := s.Log[len(s.Log)-1]
	if e.Kind != impl.EvTell || e.Who != w || s.Jobs[w] != (impl.Job{}) {
		t.Fatalf("worker %d tells %+v", w, e)
	}
	return s, e
}

// A pin that is marked after the load and before its check takes the value back, since the slot may have been freed.
func TestMarkBetweenLoadAndCheck(t *testing.T) {
	collect := slices.Repeat([]impl.Op{{Kind: impl.OpCollect}}, 6)
	set := impl.Op{Kind: impl.OpSet, Size: 8, Val: 500}
	for _, x := range []struct {
		read []impl.Op
		pc   int
	}{
		{[]impl.Op{{Kind: impl.OpGet}}, 3},
		{[]impl.Op{{Kind: impl.OpPin}, {Kind: impl.OpPeek}}, 2},
	} {
		s := impl.ShelfNew(todoOf(append([]impl.Op{set}, collect...), x.read, nil))
		s, _ = told(t, s, 0)
		if len(x.read) == 2 {
			s, _ = told(t, s, 1)
		}
		s = until(t, s, 1, x.pc)
		if s.Jobs[1].Val != 500 || s.Base.Clock.Pins[1].Marked {
			t.Fatalf("the job is %+v", s.Jobs[1])
		}
		_, e := told(t, s, 1)
		if e.Code != impl.CdOk || e.Val != 500 {
			t.Errorf("without a mark the job tells %+v", e)
		}
		// One advance succeeds, two are delayed, the next one marks the pin.
		for i := range 4 {
			s, _ = told(t, s, 0)
			if s.Base.Clock.Pins[1].Marked != (i == 3) {
				t.Fatalf("after %d collections the pin is %+v", i+1, s.Base.Clock.Pins[1])
			}
		}
		_, e = told(t, s, 1)
		if e.Code != impl.CdStall || e.Val != 0 || e.Handle != 32 {
			t.Errorf("after the mark the job tells %+v", e)
		}
	}
}

// A worker that publishes a handle after the cell has changed reads the cell again.
func TestHazardOfAChangedCell(t *testing.T) {
	sets := []impl.Op{{Kind: impl.OpSet, Size: 8, Val: 500}, {Kind: impl.OpSet, Size: 8, Val: 600}}
	for _, first := range []int{1, 2} {
		s, _ := told(t, impl.ShelfNew(todoOf(sets, []impl.Op{{Kind: impl.OpHaz}}, nil)), 0)
		s = until(t, s, 1, first)
		s, _ = told(t, s, 0)
		s = until(t, s, 1, 0)
		if len(s.Log) != 7 || s.Jobs[1].H != 32 || s.Base.Haz[1] != 32 {
			t.Fatalf("the job is %+v", s.Jobs[1])
		}
		s, e := told(t, s, 1)
		if e.Code != impl.CdOk || e.Val != 600 || e.Handle != s.Cells[0] || !slices.Equal(s.Base.Haz, impl.HazNew()) {
			t.Errorf("the job tells %+v", e)
		}
	}
}

// TestGuardsAndSizes checks promise 21 for each worker, whatever the cells contain.
func TestGuardsAndSizes(t *testing.T) {
	for w := range impl.Workers {
		for _, size := range []int{8, 0} {
			s := impl.ShelfNew(todoOf(nil, nil, nil))
			s.Todo[(w+1)%3].Ops = []impl.Op{{Kind: impl.OpSet, Size: size, Val: 7}}
			s.Todo[w].Ops = []impl.Op{
				{Kind: impl.OpPeek}, {Kind: impl.OpUnpin}, {Kind: impl.OpPin}, {Kind: impl.OpPin}, {Kind: impl.OpGet}, {Kind: impl.OpPeek}, {Kind: impl.OpPeek, Cell: 1},
				{Kind: impl.OpUnpin}, {Kind: impl.OpUnpin}, {Kind: impl.OpPeek, Cell: 1}, {Kind: impl.OpSet, Size: 41}, {Kind: impl.OpSet, Size: 0},
			}
			s, e := told(t, s, (w+1)%3)
			full := impl.CdNone
			if size == 8 {
				full = impl.CdOk
			} else if e.Code != impl.CdSize {
				t.Errorf("the size 0 gives %+v", e)
			}
			for i, want := range []int{
				impl.CdGuard, impl.CdGuard, impl.CdOk, impl.CdArgs, impl.CdArgs, full, impl.CdNone,
				impl.CdOk, impl.CdGuard, impl.CdGuard, impl.CdSize, impl.CdSize,
			} {
				pin := s.Base.Clock.Pins[w]
				s, e = told(t, s, w)
				if e.Code != want || e.Serial != i+2 {
					t.Errorf("operation %d of worker %d tells %+v", i, w, e)
				}
				if want == impl.CdArgs && s.Base.Clock.Pins[w] != pin {
					t.Errorf("operation %d of worker %d changes the pin to %+v", i, w, s.Base.Clock.Pins[w])
				}
			}
		}
	}
}

// todoFrom returns a workload that depends on x alone; few sizes are without a class.
func todoFrom(x int) []impl.Queue {
	todo := todoOf(nil, nil, nil)
	for i, y := range spread(40+x%7, 1<<40)[x%7:] {
		y ^= x * 2654435761
		o := impl.Op{Kind: []int{1, 1, 1, 1, 2, 2, 3, 3, 4, 4, 5, 6, 7, 7}[y/3%14]}
		if slices.Contains([]int{1, 2, 3, 7}, o.Kind) {
			o.Cell = y / 50 % 2
		}
		if o.Kind == impl.OpSet {
			o.Size, o.Val = []int{8, 8, 16, 5, 20, 40, 41}[y/100%7], y/1000%65536
		}
		if w := y / 700 % 3; len(todo[w].Ops) < impl.MaxOps && i < 40 {
			todo[w].Ops = append(todo[w].Ops, o)
		}
	}
	return todo
}

// TestStepsOfWorkers checks promise 17 in states of schedules: a step changes no other job, queue, pin or limbo list
// that is not the worker's own to change, keeps the shelf valid, and does nothing if there is nothing to do.
func TestStepsOfWorkers(t *testing.T) {
	for x := range 25 {
		s := impl.ShelfNew(todoFrom(x))
		for step, y := range spread(500+x, 1<<40)[x:] {
			w := y % 3
			next := impl.ShelfStep(s, w)
			if !impl.ShelfOk(next) {
				t.Fatalf("schedule %d, step %d of %+v: the shelf is invalid", x, step, s.Jobs[w])
			}
			if !s.Jobs[w].Busy && len(s.Todo[w].Ops) == 0 && !impl.SameShelf(next, s) {
				t.Fatalf("schedule %d, step %d: a worker without work changes the shelf", x, step)
			}
			for other := range impl.Workers {
				if other == w {
					continue
				}
				if next.Jobs[other] != s.Jobs[other] || !slices.Equal(next.Todo[other].Ops, s.Todo[other].Ops) ||
					next.Base.Haz[other] != s.Base.Haz[other] || !slices.Equal(next.Base.Limbo[other].Rows, s.Base.Limbo[other].Rows) {
					t.Fatalf("schedule %d, step %d of %+v changes what belongs to worker %d", x, step, s.Jobs[w], other)
				}
			}
			if !slices.Equal(next.Log[:len(s.Log)], s.Log) || len(next.Log) > len(s.Log)+1 || next.Serial < s.Serial || next.Serial > s.Serial+1 {
				t.Fatalf("schedule %d, step %d of %+v: the log grows from %v to %v", x, step, s.Jobs[w], s.Log, next.Log)
			}
			s = next
		}
	}
}

// TestStepsOfOddJobs performs steps of jobs that no schedule has, and checks promise 17 for them, too.
func TestStepsOfOddJobs(t *testing.T) {
	for x, y := range spread(6000, 1<<50) {
		s := someShelf(t)
		handles := []int{0, 33, 35, 37, 64, 32, 66, 48, 215}
		job := func(z int) impl.Job {
			o := everyOp()[z%11]
			sub := impl.Sub{Kind: z / 11 % 7, A: handles[z/77%9], Pc: z / 693 % 5, E: z / 7 % 7, Row: z/13%4 - 1, B: z/17%5 - 1, H: handles[z/19%9], Out: handles[z/23%9] + z/29%2, Done: z/31%5 == 0}
			return impl.Job{Busy: true, Op: o, Serial: 5, Pc: z/37%7 - 1, Sub: sub, H: handles[z/41%9], Old: handles[z/43%9], Code: z / 47 % 9}
		}
		for w := range s.Jobs {
			s.Jobs[w] = job(y / (w + 1))
		}
		for step, w := range []int{y % 3, y / 3 % 3, y / 9 % 3} {
			next := impl.ShelfStep(s, w)
			if !impl.ShelfOk(next) {
				t.Fatalf("shelf %d, step %d of %+v: the shelf is invalid", x, step, s.Jobs[w])
			}
			for other := range impl.Workers {
				if other != w && next.Jobs[other] != s.Jobs[other] {
					t.Fatalf("shelf %d, step %d of %+v changes the job of worker %d", x, step, s.Jobs[w], other)
				}
			}
			s = next
		}
	}
}

func TestShelvesArePure(t *testing.T) {
	shelves := everyNth(badShelves(t), 5)
	s := impl.ShelfNew(todoFrom(3))
	for i, y := range spread(160, 1<<40) {
		s = impl.ShelfStep(s, y%3)
		if i%8 == 0 {
			shelves = append(shelves, copyOfShelf(s))
		}
	}
	for _, o := range everyOp() {
		for pc := range 5 {
			busy := someShelf(t)
			busy.Jobs[pc%3] = oddJob(o, pc)
			shelves = append(shelves, busy)
		}
	}
	all := pool(append(shelves, someShelf(t))...)
	pureOverAll(t, impl.ShelfStep, all, pool(-1, 0, 1, 2, 3))
	pureOverAll(t, impl.ShelfOk, all)
	pureOverAll(t, impl.Idle, all)
	pureOverAll(t, impl.SameShelf, pool(impl.Shelf{}, someShelf(t)), all)
	pureOverAll(t, impl.ShelfNew, pool(append(badTodos(), todoFrom(1), todoOf(nil, nil, nil))...))
}
