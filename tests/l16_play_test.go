package tests

import (
	"math"
	"slices"
	"testing"

	"loop.example/g01538/impl"
)

// playWant performs the first 400 picks one by one.
func playWant(x impl.Script) impl.Shelf {
	s := impl.ShelfNew(x.Todo)
	for i, w := range x.Picks {
		if i < 400 {
			s = impl.ShelfStep(s, w)
		}
	}
	return s
}

// roundsWant performs n steps of the workers in turn one by one.
func roundsWant(s impl.Shelf, n int) impl.Shelf {
	for i := range n {
		s = impl.ShelfStep(s, i%3)
	}
	return s
}

// picksFrom returns picks of which few are no workers.
func picksFrom(x int, n int) []int {
	picks := spread(n+x, 31)[x:]
	for i, y := range picks {
		if y < 30 {
			picks[i] = y % 3
		} else {
			picks[i] = []int{-1, 3, math.MinInt, math.MaxInt}[i%4]
		}
	}
	return picks
}

func TestPlayConstants(t *testing.T) {
	if impl.MaxPicks != 400 {
		t.Error("MaxPicks is", impl.MaxPicks)
	}
}

func TestShelfPlay(t *testing.T) {
	for x := range 30 {
		for _, n := range []int{0, 1, 2, 50, 399, 400} {
			script := impl.Script{Todo: todoFrom(x), Picks: picksFrom(x, n)}
			if got := impl.ShelfPlay(script); !impl.SameShelf(got, playWant(script)) {
				t.Fatalf("script %d with %d picks gives %+v", x, n, got)
			}
		}
	}
	for _, todo := range badTodos() {
		for _, picks := range [][]int{nil, {0, 1, 2}} {
			if got := impl.ShelfPlay(impl.Script{Todo: todo, Picks: picks}); !impl.SameShelf(got, impl.Shelf{}) {
				t.Errorf("the invalid workload %v gives %+v", todo, got)
			}
		}
	}
}

// What is no worker counts among the first MaxPicks picks, and picks after them do not count.
func TestMaxPicks(t *testing.T) {
	todo := todoOf([]impl.Op{{Kind: impl.OpUnpin}}, nil, nil)
	for _, idle := range []int{-1, 1, 3} {
		for lead := 396; lead <= 402; lead++ {
			picks := slices.Concat(slices.Repeat([]int{idle}, lead), []int{0, 0, 0, 0})
			s := impl.ShelfPlay(impl.Script{Todo: todo, Picks: picks})
			if n := min(max(400-lead, 0), 3); s.Serial != min(n, 1) || s.Jobs[0].Busy != (n == 1 || n == 2) || len(s.Log) != []int{0, 1, 1, 2}[n] {
				t.Errorf("after %d picks of %d: %+v", lead, idle, s)
			}
		}
	}
}

// Picks of a worker without work change nothing, wherever they are.
func TestWorkerWithoutWork(t *testing.T) {
	todo := todoOf([]impl.Op{{Kind: impl.OpSet, Size: 8, Val: 7}, {Kind: impl.OpPin}}, nil, []impl.Op{{Kind: impl.OpHaz}})
	picks := []int{0, 0, 2, 0, 2, 0, 0, 2, 0, 0, 2, 2, 0, 2, 2, 0, 2, 0}
	want := impl.ShelfPlay(impl.Script{Todo: todo, Picks: picks})
	for i := range picks {
		some := slices.Insert(slices.Clone(picks), i, 1, 1, 1)
		if got := impl.ShelfPlay(impl.Script{Todo: todo, Picks: some}); !impl.SameShelf(got, want) {
			t.Errorf("picks of worker 1 before pick %d give %+v", i, got)
		}
	}
	end := impl.Finish(want)
	if !impl.Idle(end) || !impl.SameShelf(impl.Rounds(end, 100), end) || !impl.SameShelf(impl.Finish(end), end) {
		t.Errorf("the end is %+v", end)
	}
}

func TestRounds(t *testing.T) {
	for x := range 20 {
		s := impl.ShelfPlay(impl.Script{Todo: todoFrom(x), Picks: picksFrom(x, 7*x)})
		for _, n := range []int{math.MinInt, -3, -1, 0, 1, 2, 3, 4, 5, 50} {
			if got := impl.Rounds(s, n); !impl.SameShelf(got, roundsWant(s, max(n, 0))) {
				t.Fatalf("%d steps in turn of shelf %d give %+v", n, x, got)
			}
		}
		end := impl.Finish(s)
		if !impl.Idle(end) || !impl.SameShelf(end, roundsWant(s, 3000)) {
			t.Fatalf("the end of shelf %d is %+v", x, end)
		}
		for _, n := range []int{3000, 3001, 1000000, math.MaxInt} {
			if got := impl.Rounds(s, n); !impl.SameShelf(got, end) {
				t.Fatalf("%d steps in turn of shelf %d give %+v", n, x, got)
			}
		}
	}
}

func TestRoundsOfInvalidShelves(t *testing.T) {
	for i, s := range badShelves(t) {
		if !impl.SameShelf(impl.Rounds(s, 10), s) || !impl.SameShelf(impl.Finish(s), s) {
			t.Errorf("the invalid shelf %d changes", i)
		}
	}
	// With the last serial the shelf is not idle, and nothing happens.
	s := impl.ShelfNew(todoFrom(2))
	s.Serial = impl.MaxSerial
	if impl.Idle(s) || !impl.SameShelf(impl.Finish(s), s) || !impl.SameShelf(impl.Rounds(s, 100), s) {
		t.Error("a shelf with the last serial changes")
	}
}

// TestSchedulesAreSequencesOfSteps checks promise 18: picks and rounds can be split.
func TestSchedulesAreSequencesOfSteps(t *testing.T) {
	for x := range 15 {
		script := impl.Script{Todo: todoFrom(x), Picks: picksFrom(x, 200)}
		s := impl.ShelfNew(script.Todo)
		for i, w := range script.Picks {
			part := impl.Script{Todo: script.Todo, Picks: script.Picks[:i]}
			if i%20 == 0 && !impl.SameShelf(impl.ShelfPlay(part), s) {
				t.Fatalf("the first %d picks of script %d give %+v", i, x, impl.ShelfPlay(part))
			}
			s = impl.ShelfStep(s, w)
		}
		s = impl.ShelfPlay(impl.Script{Todo: script.Todo, Picks: script.Picks[:30]})
		for n := 0; n <= 30; n += 3 {
			for m := range 20 {
				if !impl.SameShelf(impl.Rounds(impl.Rounds(s, n), m), impl.Rounds(s, n+m)) {
					t.Fatalf("script %d: %d and %d rounds", x, n, m)
				}
			}
		}
	}
}

// TestEveryCallIsReportedOnce checks promise 18 for the logs of finished schedules.
func TestEveryCallIsReportedOnce(t *testing.T) {
	for x := range 60 {
		script := impl.Script{Todo: todoFrom(x), Picks: picksFrom(x, 100+x)}
		s := impl.Finish(impl.ShelfPlay(script))
		if !impl.Idle(s) {
			t.Fatalf("schedule %d does not end: %+v", x, s)
		}
		n := 0
		var next [impl.Workers]int
		open := map[int]impl.Op{}
		for _, e := range s.Log {
			switch e.Kind {
			case impl.EvCall:
				n++
				o := script.Todo[e.Who].Ops[next[e.Who]]
				next[e.Who]++
				if e != (impl.Ev{Kind: impl.EvCall, Who: e.Who, Serial: n, Cell: o.Cell}) {
					t.Fatalf("schedule %d: the call is %+v", x, e)
				}
				open[e.Serial] = o
			default:
				o, is := open[e.Serial]
				if !is || e.Cell != o.Cell {
					t.Fatalf("schedule %d: no call for %+v", x, e)
				}
				if e.Kind == impl.EvTell {
					delete(open, e.Serial)
				}
			}
		}
		all := 0
		for _, queue := range script.Todo {
			all += len(queue.Ops)
		}
		if len(open) > 0 || n != all || s.Serial != all || len(impl.Tells(s)) != all || impl.Among(s.Log, impl.EvTell) != all {
			t.Fatalf("schedule %d: %d calls of %d, and %v are open", x, n, all, open)
		}
	}
}

func TestTellsAndAmong(t *testing.T) {
	var l []impl.Ev
	for i, kind := range []int{4, 1, 2, 4, 4, 3, 0, 5, -1, 1, 4, 44} {
		l = append(l, impl.Ev{Kind: kind, Who: i, Serial: -i, Cell: 2 * i, Handle: i, Val: i, Code: i})
	}
	// The shelf need not be valid.
	if got := impl.Tells(impl.Shelf{Log: l}); !slices.Equal(got, []impl.Ev{l[0], l[3], l[4], l[10]}) {
		t.Error("the tells are", got)
	}
	if len(impl.Tells(impl.Shelf{})) != 0 || impl.Among(nil, impl.EvTell) != 0 {
		t.Error("an empty log has events")
	}
	for kind, want := range map[int]int{-2: 0, -1: 1, 0: 1, 1: 2, 2: 1, 3: 1, 4: 4, 5: 1, 6: 0, 44: 1, math.MinInt: 0, math.MaxInt: 0} {
		if got := impl.Among(l, kind); got != want {
			t.Errorf("%d events of kind %d, want %d", got, kind, want)
		}
	}
}

func TestPlaysArePure(t *testing.T) {
	shelves := append(everyNth(badShelves(t), 9), someShelf(t))
	var scripts []impl.Script
	for x := range 6 {
		script := impl.Script{Todo: todoFrom(x), Picks: picksFrom(x, 90*x)}
		scripts = append(scripts, script, impl.Script{Todo: badTodos()[x], Picks: []int{0, 1}})
		shelves = append(shelves, impl.ShelfPlay(script))
	}
	pureOverAll(t, impl.ShelfPlay, pool(scripts...))
	pureOverAll(t, impl.Rounds, pool(shelves...), pool(-1, 0, 1, 40))
	pureOverAll(t, impl.Finish, pool(shelves...))
	pureOverAll(t, impl.Tells, pool(shelves...))
	pureOverAll(t, impl.Among, pool(nil, shelves[len(shelves)-1].Log), pool(0, 1, 4))
}
