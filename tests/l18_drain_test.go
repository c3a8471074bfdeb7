package tests

import (
	"math"
	"slices"
	"testing"

	"loop.example/g01538/impl"
)

// idleShelf returns an idle shelf with this base.
func idleShelf(b impl.Base) impl.Shelf {
	s := impl.ShelfNew(todoOf(nil, nil, nil))
	s.Base = b
	return s
}

func TestDrainConstants(t *testing.T) {
	if impl.NeedDrain != 8 {
		t.Error("NeedDrain is", impl.NeedDrain)
	}
}

func TestCollectors(t *testing.T) {
	s := idleShelf(someBase(t))
	s.Cells, s.Serial, s.Log = []int{33, 0}, 17, []impl.Ev{{Kind: impl.EvCall, Serial: 17}}
	for n := -2; n <= 15; n++ {
		want := copyOfShelf(s)
		if n >= 0 && n <= 12 {
			for w := range want.Todo {
				want.Todo[w].Ops = slices.Repeat([]impl.Op{{Kind: impl.OpCollect}}, n)
			}
		}
		got := impl.Collectors(s, n)
		if !impl.SameShelf(got, want) || !impl.ShelfOk(got) {
			t.Errorf("Collectors(%d) = %+v", n, got)
		}
	}
	for _, n := range []int{math.MinInt, -1, 13, math.MaxInt} {
		if got := impl.Collectors(s, n); !impl.SameShelf(got, s) {
			t.Errorf("Collectors(%d) = %+v", n, got)
		}
	}
}

func TestCollectorsRefuse(t *testing.T) {
	for i, s := range badShelves(t) {
		if !impl.SameShelf(impl.Collectors(s, 2), s) || !impl.SameShelf(impl.Drain(s, 2), s) {
			t.Errorf("the invalid shelf %d changes", i)
		}
	}
	for w := range impl.Workers {
		queued := idleShelf(someBase(t))
		queued.Todo[w].Ops = []impl.Op{{Kind: impl.OpUnpin}}
		busy := idleShelf(someBase(t))
		busy.Jobs[w] = oddJob(impl.Op{Kind: impl.OpHaz}, 1)
		for _, s := range []impl.Shelf{queued, busy} {
			if got := impl.Collectors(s, 2); !impl.SameShelf(got, s) {
				t.Errorf("a shelf with work gets collectors: %+v", got)
			}
			if got := impl.Drain(s, 2); !impl.SameShelf(got, impl.Finish(s)) {
				t.Errorf("Drain of a shelf with work is %+v", got)
			}
		}
	}
}

func TestDrain(t *testing.T) {
	for _, b := range everyNth(variedBases(), 10) {
		s := idleShelf(b)
		for _, n := range []int{-1, 0, 1, 2, 3, 8, 12, 13} {
			want := impl.Collectors(s, n)
			for i := range 3000 {
				want = impl.ShelfStep(want, i%3)
				if impl.Idle(want) {
					break
				}
			}
			if got := impl.Drain(s, n); !impl.SameShelf(got, want) || !impl.Idle(got) {
				t.Fatalf("Drain(%d) of %+v is %+v", n, s, got)
			}
		}
	}
}

func TestWaiting(t *testing.T) {
	for _, x := range []struct {
		l    []impl.LList
		want []int
	}{
		{nil, nil},
		{impl.LimboNew(), nil},
		{someLimbo(), []int{33, 70, 40, 41, 215, 32}},
		{limboOf([][2]int{{9, 1}}, [][2]int{{0, 2}, {9, 3}}, nil, [][2]int{{-5, 4}, {7, 5}}), []int{9, 0, 9, -5, 7}},
	} {
		if got := impl.Waiting(impl.Shelf{Base: impl.Base{Limbo: x.l}}); !slices.Equal(got, x.want) {
			t.Errorf("Waiting of %v is %v", x.l, got)
		}
	}
}

func TestStuck(t *testing.T) {
	for pins := range 27 {
		for jobs := range 8 {
			s := idleShelf(someBase(t))
			var want []int
			for w, div := range []int{1, 3, 9} {
				s.Base.Clock.Pins[w] = []impl.Pin{{}, {On: true, Epoch: 2}, {On: true, Marked: true}}[pins/div%3]
				if jobs>>w&1 == 1 {
					s.Jobs[w] = oddJob(impl.Op{Kind: impl.OpHaz}, 9)
				} else if s.Base.Clock.Pins[w].On {
					want = append(want, w)
				}
			}
			if got := impl.Stuck(s); !slices.Equal(got, want) {
				t.Errorf("Stuck of the pins %v and the jobs %v is %v", s.Base.Clock.Pins, s.Jobs, got)
			}
		}
	}
	for i, s := range badShelves(t) {
		if got := impl.Stuck(s); len(got) != 0 {
			t.Errorf("the workers %v of the invalid shelf %d are stuck", got, i)
		}
	}
}

// A pin that is never released delays the collections until it is marked, and nothing after that.
func TestPinThatIsNeverReleased(t *testing.T) {
	sets := []impl.Op{{Kind: impl.OpSet, Size: 8, Val: 7}, {Kind: impl.OpSet, Size: 8, Val: 8}, {Kind: impl.OpSet, Cell: 1, Size: 40, Val: 9}}
	for w := range impl.Workers {
		todo := todoOf(nil, nil, nil)
		todo[w].Ops = []impl.Op{{Kind: impl.OpPin}}
		todo[(w+1)%3].Ops = sets
		s := impl.Finish(impl.ShelfNew(todo))
		if !slices.Equal(impl.Stuck(s), []int{w}) || !slices.Equal(impl.Waiting(s), []int{32}) {
			t.Fatalf("worker %d: stuck are %v, waiting is %v", w, impl.Stuck(s), impl.Waiting(s))
		}
		// The first collection of all workers advances the epoch once and is delayed twice.
		one := impl.Drain(s, 1)
		if one.Base.Clock.Epoch != 1 || one.Base.Clock.Pins[w].Marked || len(impl.Waiting(one)) != 1 {
			t.Errorf("worker %d: after a collection the clock is %v", w, one.Base.Clock)
		}
		end := impl.Drain(s, impl.NeedDrain)
		if len(impl.Waiting(end)) != 0 || impl.Where(end.Base, 0) != impl.WhFree || !end.Base.Clock.Pins[w].Marked || !slices.Equal(impl.Stuck(end), []int{w}) {
			t.Errorf("worker %d: at the end the clock is %v and %v waits", w, end.Base.Clock, impl.Waiting(end))
		}
		if !slices.Equal(end.Cells, s.Cells) || !impl.Accounted(end) || !impl.SafeNow(end) {
			t.Errorf("worker %d: at the end the cells are %v", w, end.Cells)
		}
		// The worker learns of it when it peeks, and can unpin.
		end.Todo[w].Ops = []impl.Op{{Kind: impl.OpPeek}, {Kind: impl.OpUnpin}, {Kind: impl.OpGet}}
		for i, code := range []int{impl.CdStall, impl.CdOk, impl.CdOk} {
			next, e := told(t, end, w)
			if e.Code != code {
				t.Errorf("worker %d: operation %d tells %+v", w, i, e)
			}
			end = next
		}
	}
}

// TestReclamation checks promise 20: whatever the pins are, nothing waits after NeedDrain collections of each worker.
func TestReclamation(t *testing.T) {
	waited, stuck := 0, 0
	check := func(s impl.Shelf) {
		t.Helper()
		waited, stuck = waited+len(impl.Waiting(s)), stuck+len(impl.Stuck(s))
		end := impl.Drain(s, impl.NeedDrain)
		if len(impl.Waiting(end)) != 0 || impl.LimboSize(end.Base.Limbo) != 0 || !impl.ShelfOk(end) || !impl.Idle(end) {
			t.Fatalf("%v waits after the collections of %+v", impl.Waiting(end), s)
		}
		if !slices.Equal(end.Cells, s.Cells) || !slices.Equal(impl.Stuck(end), impl.Stuck(s)) {
			t.Fatalf("the collections of %+v give %+v", s, end)
		}
		was, is := impl.Tally(s.Base), impl.Tally(end.Base)
		if is[impl.WhUsed] != was[impl.WhUsed] || is[impl.WhFree]+is[impl.WhGone] != was[impl.WhFree]+was[impl.WhGone]+was[impl.WhLimbo] {
			t.Fatalf("the collections of %+v give the tally %v", s, is)
		}
	}
	for x := range 40 {
		check(impl.Finish(impl.ShelfPlay(impl.Script{Todo: todoFrom(x), Picks: picksFrom(x, 10*x)})))
		check(impl.Finish(impl.ShelfPlay(impl.Script{Todo: raceFrom(x), Picks: picksFrom(x, 10*x)})))
	}
	for _, b := range variedBases() {
		b.Haz = impl.HazNew()
		check(idleShelf(b))
	}
	if waited < 500 || stuck < 100 {
		t.Errorf("%d handles waited, %d workers were stuck", waited, stuck)
	}
}

// A hazard pointer protects its own handle for as long as it is there, and no other handle.
func TestHazardProtectsOnlyItsHandle(t *testing.T) {
	kept := 0
	for _, b := range variedBases() {
		waiting := impl.Waiting(idleShelf(b))
		var want []int
		for _, h := range waiting {
			if slices.Contains(b.Haz, h) {
				want = append(want, h)
			}
		}
		kept += len(want)
		end := impl.Drain(idleShelf(b), impl.NeedDrain)
		if got := impl.Waiting(end); !slices.Equal(got, want) {
			t.Fatalf("of %v with the hazard pointers %v there remain %v", waiting, b.Haz, got)
		}
		end.Base.Haz = impl.HazNew()
		if got := impl.Waiting(impl.Drain(end, 1)); len(got) != 0 {
			t.Fatalf("without hazard pointers there remain %v", got)
		}
	}
	if kept < 50 {
		t.Error("only", kept, "handles are kept")
	}
}

func TestDrainsArePure(t *testing.T) {
	shelves := append(everyNth(badShelves(t), 9), someShelf(t), idleShelf(someBase(t)))
	for _, b := range everyNth(variedBases(), 60) {
		shelves = append(shelves, idleShelf(b))
	}
	all := pool(shelves...)
	pureOverAll(t, impl.Collectors, all, pool(-1, 0, 2, 12, 13))
	pureOverAll(t, impl.Drain, all, pool(-1, 0, 2))
	pureOverAll(t, impl.Waiting, all)
	pureOverAll(t, impl.Stuck, all)
}
