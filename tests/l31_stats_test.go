package tests

import (
	"math"
	"slices"
	"testing"

	"loop.example/g01538/impl"
)

// statesWant performs the picks that are workers one by one.
func statesWant(x impl.Script) []impl.Shelf {
	s := impl.ShelfNew(x.Todo)
	if !impl.ShelfOk(s) {
		return nil
	}
	l := []impl.Shelf{s}
	for i, w := range x.Picks {
		if i < 400 && w >= 0 && w < 3 {
			s = impl.ShelfStep(s, w)
			l = append(l, s)
		}
	}
	return l
}

// scarce returns a script whose operations need more slots than there are.
func scarce(x int) impl.Script {
	sizes := [][]int{{40}, {16, 40}, {8, 16, 40, 41}}[x%3]
	todo := todoOf(nil, nil, nil)
	for i, y := range spread(36+x, 1<<40)[x:] {
		o := impl.Op{Kind: impl.OpSet, Cell: y % 2, Size: sizes[y/2%len(sizes)], Val: y / 20 % 65536}
		if y/100%9 == 0 {
			o = everyOp()[y/900%11]
		}
		todo[i%3].Ops = append(todo[i%3].Ops, o)
	}
	return impl.Script{Todo: todo, Picks: rushes(x)}
}

func scripts() []impl.Script {
	var l []impl.Script
	for x := range 15 {
		l = append(l, impl.Script{Todo: todoFrom(x), Picks: picksFrom(x, 27*x+x/14*40)}, scarce(x))
	}
	return l
}

func badScripts() []impl.Script {
	var l []impl.Script
	for _, todo := range badTodos() {
		l = append(l, impl.Script{Todo: todo}, impl.Script{Todo: todo, Picks: []int{0, 1, 2, 0}})
	}
	return l
}

func TestStatesOf(t *testing.T) {
	for i, x := range scripts() {
		got, want := impl.StatesOf(x), statesWant(x)
		if !slices.EqualFunc(got, want, impl.SameShelf) {
			t.Fatalf("script %d has %d states, want %d", i, len(got), len(want))
		}
		if !impl.SameShelf(got[len(got)-1], impl.ShelfPlay(x)) || !impl.SameShelf(got[0], impl.ShelfNew(x.Todo)) {
			t.Fatalf("script %d ends or begins elsewhere", i)
		}
	}
	for _, x := range badScripts() {
		if len(impl.StatesOf(x)) != 0 {
			t.Errorf("the invalid script %v has states", x)
		}
	}
	// Only workers among the first 400 picks count.
	todo := todoOf([]impl.Op{{Kind: impl.OpUnpin}}, nil, nil)
	for lead := 396; lead <= 402; lead++ {
		for _, idle := range []int{math.MinInt, -1, 3, math.MaxInt, 1} {
			picks := slices.Concat(slices.Repeat([]int{idle}, lead), []int{0, 2, 0})
			want := 1 + min(max(400-lead, 0), 3)
			if idle == 1 {
				want += min(lead, 400)
			}
			if got := impl.StatesOf(impl.Script{Todo: todo, Picks: picks}); len(got) != want {
				t.Errorf("after %d picks of %d there are %d states, want %d", lead, idle, len(got), want)
			}
		}
	}
}

// TestPeaks checks a part of promise 31: the peaks are reached, but not exceeded, and logs only grow at their ends.
func TestPeaks(t *testing.T) {
	most := [2]int{}
	for i, x := range scripts() {
		limbo, used := 0, 0
		var log []impl.Ev
		for _, s := range statesWant(x) {
			limbo, used = max(limbo, impl.LimboSize(s.Base.Limbo)), max(used, impl.Tally(s.Base)[impl.WhUsed])
			if len(s.Log) < len(log) || !slices.Equal(s.Log[:len(log)], log) {
				t.Fatalf("script %d: the log changes from %v to %v", i, log, s.Log)
			}
			log = s.Log
		}
		if got := impl.PeakLimbo(x); got != limbo {
			t.Errorf("PeakLimbo of script %d is %d, want %d", i, got, limbo)
		}
		if got := impl.PeakUsed(x); got != used {
			t.Errorf("PeakUsed of script %d is %d, want %d", i, got, used)
		}
		most[0], most[1] = max(most[0], limbo), max(most[1], used)
	}
	if most[0] < 8 || most[1] < 4 {
		t.Error("the greatest peaks are", most)
	}
	for _, x := range badScripts() {
		if impl.PeakLimbo(x) != 0 || impl.PeakUsed(x) != 0 {
			t.Errorf("the invalid script %v has peaks", x)
		}
	}
	// A peak that is passed.
	set := impl.Op{Kind: impl.OpSet, Size: 40, Val: 1}
	ops := slices.Concat(slices.Repeat([]impl.Op{set}, 4), slices.Repeat([]impl.Op{{Kind: impl.OpCollect}}, 6))
	x := impl.Script{Todo: todoOf(ops, nil, nil), Picks: slices.Repeat([]int{0}, 200)}
	if end := impl.ShelfPlay(x); impl.LimboSize(end.Base.Limbo) != 0 || impl.PeakLimbo(x) != 3 || impl.PeakUsed(x) != 2 {
		t.Errorf("the peaks are %d and %d, at the end there are %v", impl.PeakLimbo(x), impl.PeakUsed(x), end.Base.Limbo)
	}
}

// exhaustedWant reports whether a shelf is exhausted for the job of worker w.
func exhaustedWant(s impl.Shelf, w int) bool {
	c := impl.ClassOf(s.Jobs[w].Op.Size)
	if !s.Jobs[w].Busy || s.Jobs[w].Op.Kind != impl.OpSet || c < 0 {
		return false
	}
	lists := s.Base.Mem.Lists
	return len(lists.Global[c].Slots) == 0 && len(lists.Own[3*w+c].Slots) == 0 && !slices.Contains(s.Base.Mem.Heap.Class, -1)
}

// fairWant looks back from every job that is full.
func fairWant(l []impl.Shelf) bool {
	for i, s := range l {
		if !impl.ShelfOk(s) {
			return false
		}
		for w, job := range s.Jobs {
			if !job.Busy || job.Op.Kind != impl.OpSet || impl.ClassOf(job.Op.Size) < 0 || job.Code != impl.CdFull {
				continue
			}
			found := false
			for k := i; k >= 0 && l[k].Jobs[w].Busy && l[k].Jobs[w].Serial == job.Serial; k-- {
				found = found || exhaustedWant(l[k], w)
			}
			if !found {
				return false
			}
		}
	}
	return true
}

// TestFairness checks promise 31 for the states of scripts.
func TestFairness(t *testing.T) {
	full := 0
	for i, x := range append(scripts(), badScripts()...) {
		l := impl.StatesOf(x)
		if !impl.Fair(l) || !fairWant(l) {
			t.Fatalf("script %d is not fair", i)
		}
		if len(l) > 0 {
			for _, e := range impl.Tells(l[len(l)-1]) {
				if e.Code == impl.CdFull {
					full++
				}
			}
		}
	}
	if full < 20 {
		t.Error("only so many operations are full:", full)
	}
	if !impl.Fair(nil) || !impl.Fair([]impl.Shelf{}) {
		t.Error("no shelves are not fair")
	}
}

// Parts and other orders of the states need not be fair.
func TestFairOfChangedStates(t *testing.T) {
	unfair := 0
	for i := range 10 {
		l := impl.StatesOf(scarce(i))
		for x, y := range spread(40+i, 1<<40)[i:] {
			some := slices.Clone(l)
			a, b := y%len(l), y/1000%len(l)
			switch x % 4 {
			case 0:
				some = slices.Delete(some, min(a, b), max(a, b))
			case 1:
				some[a], some[b] = some[b], some[a]
			case 2:
				some = some[a:]
			case 3:
				for k := min(a, b); k < max(a, b); k++ {
					s := copyOfShelf(some[k])
					s.Base.Mem.Lists.Own[3*(y%3)+2].Slots = nil
					if y/7%2 == 0 {
						s.Jobs[y%3].Serial += y / 20 % 2
						s.Jobs[y%3].Op.Size = []int{40, 8, 41, 0}[y/40%4]
					}
					some[k] = s
				}
			}
			if got, want := impl.Fair(some), fairWant(some); got != want {
				t.Fatalf("Fair of the changed states %d, %d = %t", i, x, got)
			} else if !got {
				unfair++
			}
		}
	}
	if unfair < 30 {
		t.Error("only so many sequences are not fair:", unfair)
	}
}

// exhaustion returns a shelf in which all pages are granted for 40 bytes, all slots are in use, and worker 1 has a job of OpSet.
func exhaustion(t *testing.T) (impl.Shelf, impl.Job) {
	t.Helper()
	s := impl.ShelfNew(todoOf(nil, nil, nil))
	for range 6 {
		var code int
		s.Base.Mem, _, code = impl.AllocNow(s.Base.Mem, 0, 40)
		if code != impl.CdOk {
			t.Fatal("there are not six slots of 40 bytes")
		}
	}
	return s, impl.Job{Busy: true, Op: impl.Op{Kind: impl.OpSet, Size: 40}, Serial: 5}
}

// freed returns the shelf after worker w has freed the handle.
func freed(s impl.Shelf, w int, h int) impl.Shelf {
	next := copyOfShelf(s)
	next.Base.Mem, _ = impl.FreeNow(s.Base.Mem, w, h)
	return next
}

func withJob(s impl.Shelf, w int, job impl.Job, code int) impl.Shelf {
	next := copyOfShelf(s)
	job.Code = code
	next.Jobs[w] = job
	return next
}

// A shelf is exhausted for one worker only while another has a slot in its local list.
func TestMomentOfExhaustionForOneWorker(t *testing.T) {
	s, job := exhaustion(t)
	for w := range impl.Workers {
		for owner := range impl.Workers {
			x := freed(s, owner, 32)
			if got := impl.Fair([]impl.Shelf{withJob(x, w, job, impl.CdFull)}); got != (w != owner) {
				t.Errorf("with a slot of worker %d Fair for worker %d is %t", owner, w, got)
			}
			// A moment later the other worker has given a slot back, or all slots are used again.
			moment, later := withJob(x, w, job, impl.CdOk), withJob(freed(x, w, 36), w, job, impl.CdFull)
			if got := impl.Fair([]impl.Shelf{moment, later}); got != (w != owner) {
				t.Errorf("after a moment with a slot of worker %d Fair for worker %d is %t", owner, w, got)
			}
		}
		// Slots on the global list are within reach of all.
		x := freed(freed(freed(s, 0, 32), 0, 36), 0, 40)
		if impl.Fair([]impl.Shelf{withJob(x, w, job, impl.CdFull)}) {
			t.Errorf("with a slot on the global list Fair for worker %d is true", w)
		}
	}
}

func TestFair(t *testing.T) {
	s, job := exhaustion(t)
	free := freed(s, 1, 32)
	other := job
	other.Serial = 6
	small, get := job, job
	small.Op.Size = 8
	get.Op = impl.Op{Kind: impl.OpGet}
	none := job
	none.Op.Size = 41
	page := copyOfShelf(s)
	page.Base.Mem = impl.MemNew()
	for i, x := range []struct {
		l    []impl.Shelf
		fair bool
	}{
		{[]impl.Shelf{withJob(s, 1, job, impl.CdFull)}, true},
		{[]impl.Shelf{withJob(free, 1, job, impl.CdFull)}, false},
		{[]impl.Shelf{withJob(page, 1, job, impl.CdFull)}, false},
		{[]impl.Shelf{withJob(free, 1, job, impl.CdSize)}, true},
		{[]impl.Shelf{withJob(free, 1, none, impl.CdFull)}, true},
		{[]impl.Shelf{withJob(free, 1, get, impl.CdFull)}, true},
		// For 8 bytes there is no page and no slot in either shelf.
		{[]impl.Shelf{withJob(free, 1, small, impl.CdFull)}, true},
		{[]impl.Shelf{withJob(s, 1, job, impl.CdOk), withJob(free, 1, job, impl.CdOk), withJob(free, 1, job, impl.CdFull)}, true},
		{[]impl.Shelf{withJob(s, 1, job, impl.CdOk), withJob(free, 1, other, impl.CdOk), withJob(free, 1, job, impl.CdFull)}, false},
		{[]impl.Shelf{withJob(s, 1, other, impl.CdOk), withJob(free, 1, job, impl.CdFull)}, false},
		{[]impl.Shelf{withJob(s, 1, job, impl.CdOk), free, withJob(free, 1, job, impl.CdFull)}, false},
		{[]impl.Shelf{s, withJob(free, 1, job, impl.CdFull)}, false},
		{[]impl.Shelf{withJob(s, 0, job, impl.CdOk), withJob(free, 1, job, impl.CdFull)}, false},
		{[]impl.Shelf{withJob(free, 1, job, impl.CdFull), withJob(s, 1, job, impl.CdFull)}, false},
		// The job as it stood then: no OpSet, another size, and one without a class.
		{[]impl.Shelf{withJob(s, 1, get, impl.CdOk), withJob(free, 1, job, impl.CdFull)}, false},
		{[]impl.Shelf{withJob(s, 1, none, impl.CdOk), withJob(free, 1, job, impl.CdFull)}, false},
		{[]impl.Shelf{withJob(free, 1, small, impl.CdOk), withJob(free, 1, job, impl.CdFull)}, true},
		{[]impl.Shelf{withJob(s, 1, job, impl.CdOk), withJob(free, 1, get, impl.CdOk), withJob(free, 1, job, impl.CdFull)}, true},
		{[]impl.Shelf{withJob(s, 1, job, impl.CdFull), {}}, false},
		{[]impl.Shelf{{}}, false},
		{[]impl.Shelf{{}, withJob(s, 1, job, impl.CdFull)}, false},
	} {
		if got := impl.Fair(x.l); got != x.fair || fairWant(x.l) != x.fair {
			t.Errorf("sequence %d: Fair = %t", i, got)
		}
	}
	for i, bad := range badShelves(t) {
		if impl.Fair([]impl.Shelf{s, bad}) {
			t.Errorf("the invalid shelf %d is fair", i)
		}
	}
	// A job with the serial 0 is a job like others.
	zero := job
	zero.Serial = 0
	if impl.Fair([]impl.Shelf{s, withJob(free, 1, zero, impl.CdFull)}) || !impl.Fair([]impl.Shelf{withJob(s, 1, zero, 0), withJob(free, 1, zero, impl.CdFull)}) {
		t.Error("a job with the serial 0 is taken for none")
	}
	if impl.Fair([]impl.Shelf{withJob(s, 1, zero, 0), free, withJob(free, 1, zero, impl.CdFull)}) {
		t.Error("no job is taken for the job with the serial 0")
	}
}

func TestTablePeak(t *testing.T) {
	most := 0
	for i := range 20 {
		for _, x := range []impl.TScript{{Todo: batchesFrom(i), Picks: rushes(i)}, stalls(i), {Todo: batchesFrom(i), Picks: picksFrom(i, 20*i)}} {
			want := 0
			tab := impl.TableNew(x.Todo)
			for k, w := range x.Picks {
				if k < 400 {
					tab = impl.TableStep(tab, w)
					want = max(want, impl.LimboSize(tab.Base.Limbo))
				}
			}
			if got := impl.TablePeak(x); got != want {
				t.Errorf("TablePeak of script %d is %d, want %d", i, got, want)
			}
			most = max(most, want)
		}
	}
	if most < 5 {
		t.Error("the greatest peak is", most)
	}
	for _, todo := range badTTodos() {
		if got := impl.TablePeak(impl.TScript{Todo: todo, Picks: []int{0, 1, 2}}); got != 0 {
			t.Errorf("TablePeak of the invalid workload %v is %d", todo, got)
		}
	}
	// The last pick that counts is number 400.
	todo := batches([]impl.Batch{batch(put(2, 1)), batch(del(2))}, nil, nil)
	steps := 0
	for x := impl.TableNew(todo); impl.LimboSize(x.Base.Limbo) == 0; steps++ {
		x = impl.TableStep(x, 0)
	}
	for lead := 395 - steps; lead <= 405-steps; lead++ {
		picks := slices.Concat(slices.Repeat([]int{[]int{1, 5}[lead%2]}, lead), slices.Repeat([]int{0}, steps))
		if got := impl.TablePeak(impl.TScript{Todo: todo, Picks: picks}); (got == 1) != (lead+steps <= 400) {
			t.Errorf("TablePeak with pick number %d is %d", lead+steps, got)
		}
	}
}

func TestUnmarked(t *testing.T) {
	for _, c := range clocks() {
		want := 0
		for w := range impl.Workers {
			if _, ok := impl.PinnedAt(c, w); ok {
				want++
			}
		}
		if got := impl.Unmarked(c); got != want {
			t.Errorf("Unmarked of %+v = %d, want %d", c, got, want)
		}
	}
}

func TestStatsArePure(t *testing.T) {
	some := pool(append(everyNth(scripts(), 6), badScripts()[:2]...)...)
	pureOverAll(t, impl.StatesOf, some)
	pureOverAll(t, impl.PeakLimbo, some)
	pureOverAll(t, impl.PeakUsed, some)
	s, job := exhaustion(t)
	pureOverAll(t, impl.Fair, pool(nil, impl.StatesOf(scarce(1))[:90], []impl.Shelf{withJob(s, 1, job, impl.CdFull)}, []impl.Shelf{{}}))
	pureOverAll(t, impl.TablePeak, pool(stalls(1), impl.TScript{Todo: batchesFrom(2), Picks: rushes(2)}, impl.TScript{}))
	pureOverAll(t, impl.Unmarked, pool(clocks()[:40]...))
}
