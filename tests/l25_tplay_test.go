package tests

import (
	"math"
	"slices"
	"testing"

	"loop.example/g01538/impl"
)

// tablePlayWant performs the first 400 picks one by one.
func tablePlayWant(s impl.TScript) impl.Table {
	x := impl.TableNew(s.Todo)
	for i, w := range s.Picks {
		if i < 400 {
			x = impl.TableStep(x, w)
		}
	}
	return x
}

// tableRoundsWant performs n steps of the workers in turn one by one.
func tableRoundsWant(x impl.Table, n int) impl.Table {
	for i := range n {
		x = impl.TableStep(x, i%3)
	}
	return x
}

func TestTablePlay(t *testing.T) {
	for x := range 15 {
		for _, n := range []int{0, 1, 2, 50, 399, 400} {
			s := impl.TScript{Todo: batchesFrom(x), Picks: picksFrom(x, n)}
			if got := impl.TablePlay(s); !impl.SameTable(got, tablePlayWant(s)) {
				t.Fatalf("script %d with %d picks gives %+v", x, n, got)
			}
		}
	}
	for _, todo := range badTTodos() {
		for _, picks := range [][]int{nil, {0, 1, 2}} {
			if got := impl.TablePlay(impl.TScript{Todo: todo, Picks: picks}); !sameParts(got, impl.Table{}) {
				t.Errorf("the invalid workload %v gives %+v", todo, got)
			}
		}
	}
}

// What is no worker counts among the first MaxPicks picks, and picks after them do not count.
func TestPicksOfATable(t *testing.T) {
	todo := batches([]impl.Batch{batch(get(1))}, nil, nil)
	for _, idle := range []int{math.MinInt, -1, 1, 3, math.MaxInt} {
		for lead := 396; lead <= 402; lead++ {
			picks := slices.Concat(slices.Repeat([]int{idle}, lead), []int{0, 0, 0, 0})
			x := impl.TablePlay(impl.TScript{Todo: todo, Picks: picks})
			want := impl.TableNew(todo)
			for range min(max(400-lead, 0), 4) {
				want = impl.TableStep(want, 0)
			}
			if !impl.SameTable(x, want) {
				t.Errorf("after %d picks of %d: %+v", lead, idle, x)
			}
		}
	}
}

func TestPickThatIsNoWorker(t *testing.T) {
	s := impl.TScript{Todo: batchesFrom(4), Picks: picksFrom(4, 120)}
	want := impl.TablePlay(s)
	for _, w := range []int{math.MinInt, -1, 3, math.MaxInt} {
		for i := range s.Picks {
			some := impl.TScript{Todo: s.Todo, Picks: slices.Insert(slices.Clone(s.Picks), i, w, w)}
			if got := impl.TablePlay(some); !impl.SameTable(got, want) {
				t.Errorf("picks of %d before pick %d give %+v", w, i, got)
			}
		}
	}
}

func TestTableRounds(t *testing.T) {
	for i := range 12 {
		x := impl.TablePlay(impl.TScript{Todo: batchesFrom(i), Picks: picksFrom(i, 17*i)})
		for _, n := range []int{math.MinInt, -3, -1, 0, 1, 2, 3, 4, 5, 50} {
			if got := impl.TableRounds(x, n); !impl.SameTable(got, tableRoundsWant(x, max(n, 0))) {
				t.Fatalf("%d steps in turn of table %d give %+v", n, i, got)
			}
		}
		end := impl.TableFinish(x)
		if !impl.TableIdle(end) || !impl.SameTable(end, tableRoundsWant(x, 3000)) {
			t.Fatalf("the end of table %d is %+v", i, end)
		}
		for _, n := range []int{3000, 3001, 1000000, math.MaxInt} {
			if got := impl.TableRounds(x, n); !impl.SameTable(got, end) {
				t.Fatalf("%d steps in turn of table %d give %+v", n, i, got)
			}
		}
	}
}

// longSearches returns a table with a chain of all nodes that there can be, and queues full of searches for the last one.
func longSearches() impl.Table {
	cmds := slices.Repeat([]impl.Cmd{get(0)}, 6)
	fill := []impl.Batch{batch(put(0, 5), put(2, 5), put(4, 5), put(6, 5), put(8, 5), put(10, 5)), batch(put(12, 5), put(14, 5), put(16, 5), put(18, 5), put(20, 5), put(22, 5))}
	x := impl.TableFinish(impl.TableNew(batches(fill, nil, nil)))
	for w := range x.Todo {
		x.Todo[w].List = slices.Repeat([]impl.Batch{batch(cmds...)}, 12)
	}
	return x
}

// A workload that needs more than 3000 steps is not finished then.
func TestTableFinishStopsAfterMostSteps(t *testing.T) {
	x := longSearches()
	if len(impl.TableMap(x)) != 12 {
		t.Fatal("the map is", impl.TableMap(x))
	}
	end := impl.TableFinish(x)
	if impl.TableIdle(end) || !impl.SameTable(end, tableRoundsWant(x, 3000)) || impl.SameTable(end, impl.TableStep(end, 0)) {
		t.Errorf("after 3000 steps there are %d of 38 reports", len(impl.TableTells(end)))
	}
	if !impl.SameTable(impl.TableRounds(x, 2999), tableRoundsWant(x, 2999)) {
		t.Error("2999 steps in turn are others")
	}
	for _, n := range []int{3000, 3001, 9000, math.MaxInt} {
		if !impl.SameTable(impl.TableRounds(x, n), end) {
			t.Errorf("%d steps in turn are not 3000", n)
		}
	}
	for range 4 {
		if !impl.SerialOk(end) {
			t.Error("the history of a table that is not finished is refused")
		}
		end = impl.TableFinish(end)
	}
	if !impl.TableIdle(end) || impl.Codes(end.Log, impl.CdOk) != 38 || !impl.SerialOk(end) {
		t.Errorf("in the end there are %d of 38 reports", impl.Codes(end.Log, impl.CdOk))
	}
}

func TestRoundsOfInvalidTables(t *testing.T) {
	for i, x := range badTables(t) {
		if !sameParts(impl.TableRounds(x, 10), x) || !sameParts(impl.TableFinish(x), x) {
			t.Errorf("the invalid table %d changes", i)
		}
	}
	// With the last serial the table is not idle, and nothing happens.
	x := impl.TableNew(batchesFrom(2))
	x.Serial = impl.MaxSerial
	if impl.TableIdle(x) || !impl.SameTable(impl.TableFinish(x), x) || !impl.SameTable(impl.TableRounds(x, 100), x) {
		t.Error("a table with the last serial changes")
	}
}

// Nothing happens any more when the counter of one job has made the table invalid.
func TestTableThatBecomesInvalid(t *testing.T) {
	for w := range impl.Workers {
		x := someTable(t)
		for other := range x.Jobs {
			x.Jobs[other] = oddTJob(fullBatch(), impl.TpNext)
			x.Jobs[other].Writes = nil
		}
		x.Jobs[w] = oddTJob(fullBatch(), impl.TpValid)
		x.Jobs[w].K, x.Jobs[w].Reads = 97, slices.Repeat([]impl.Seen{{Bkt: 0, Ver: 5}}, 200)
		for _, n := range []int{9, 10, 11, 12, 13, 14, 15, 40, 3000} {
			if got := impl.TableRounds(x, n); !impl.SameTable(got, tableRoundsWant(x, n)) {
				t.Errorf("%d steps give %+v", n, got)
			}
		}
		end := impl.TableFinish(x)
		if end.Jobs[w].K != 101 || impl.TableOk(end) || !impl.SameTable(end, impl.TableRounds(x, 10+w)) {
			t.Errorf("the end is %+v", end)
		}
	}
}

func TestSchedulesOfOddTables(t *testing.T) {
	for pc := -1; pc <= 22; pc++ {
		x := someTable(t)
		for w := range x.Jobs {
			x.Jobs[w] = oddTJob(goodBatches()[w], pc+w)
			x.Jobs[w].K = w
		}
		for _, n := range []int{1, 2, 3, 7, 60} {
			if got := impl.TableRounds(x, n); !impl.SameTable(got, tableRoundsWant(x, n)) {
				t.Errorf("%d steps from %d on give %+v", n, pc, got)
			}
		}
		if got := impl.TableFinish(x); !impl.SameTable(got, tableRoundsWant(x, 3000)) {
			t.Errorf("the end of what starts with %d is %+v", pc, got)
		}
	}
}

// TestSchedulesOfTablesAreSequences checks promise 18: picks and rounds can be split.
func TestSchedulesOfTablesAreSequences(t *testing.T) {
	for i := range 8 {
		s := impl.TScript{Todo: batchesFrom(i), Picks: picksFrom(i, 300)}
		x := impl.TableNew(s.Todo)
		for k, w := range s.Picks {
			part := impl.TScript{Todo: s.Todo, Picks: s.Picks[:k]}
			if k%25 == 0 && !impl.SameTable(impl.TablePlay(part), x) {
				t.Fatalf("the first %d picks of script %d give %+v", k, i, impl.TablePlay(part))
			}
			x = impl.TableStep(x, w)
		}
		x = impl.TablePlay(impl.TScript{Todo: s.Todo, Picks: s.Picks[:70]})
		for n := 0; n <= 30; n += 3 {
			for m := range 20 {
				if !impl.SameTable(impl.TableRounds(impl.TableRounds(x, n), m), impl.TableRounds(x, n+m)) {
					t.Fatalf("script %d: %d and %d rounds", i, n, m)
				}
			}
		}
	}
}

// TestEveryBatchIsReportedOnce checks promise 18 for the logs of finished schedules.
func TestEveryBatchIsReportedOnce(t *testing.T) {
	for i := range 60 {
		s := impl.TScript{Todo: batchesFrom(i), Picks: picksFrom(i, 6*i)}
		x := impl.TableFinish(impl.TablePlay(s))
		if !impl.TableIdle(x) {
			t.Fatalf("schedule %d does not end: %+v", i, x)
		}
		calls, tells, all := 0, 0, 0
		var next [impl.Workers]int
		open := map[int]impl.Batch{}
		for _, e := range x.Log {
			switch e.Kind {
			case impl.TvCall:
				calls++
				b := s.Todo[e.Who].List[next[e.Who]]
				next[e.Who]++
				if !sameParts(e, impl.TEv{Kind: impl.TvCall, Who: e.Who, Serial: calls, Cmds: b.Cmds}) {
					t.Fatalf("schedule %d: the call is %+v", i, e)
				}
				open[e.Serial] = b
			case impl.TvTell:
				tells++
				b, is := open[e.Serial]
				if !is || len(e.Cmds) > 0 || e.Code == impl.CdOk && len(e.Res) != len(b.Cmds) || e.Code != impl.CdOk && len(e.Res) != 0 {
					t.Fatalf("schedule %d: %+v is told of %+v", i, e, b)
				}
				delete(open, e.Serial)
			default:
				if b, is := open[e.Serial]; !is || b.Collect || !sameParts(e, impl.TEv{Kind: impl.TvPoint, Who: e.Who, Serial: e.Serial}) {
					t.Fatalf("schedule %d: the point is %+v", i, e)
				}
			}
		}
		for _, queue := range s.Todo {
			all += len(queue.List)
		}
		if len(open) > 0 || calls != all || tells != all || x.Serial != all || len(impl.TableTells(x)) != all {
			t.Fatalf("schedule %d: %d calls of %d, and %v are open", i, calls, all, open)
		}
	}
}

func TestTableTells(t *testing.T) {
	var l []impl.TEv
	for i, kind := range []int{3, 1, 2, 3, 3, 2, 0, 4, -1, 1, 3, 33} {
		l = append(l, impl.TEv{Kind: kind, Who: i, Serial: -i, Code: i, Cmds: []impl.Cmd{get(i)}, Res: []impl.Res{{Val: i}, {}}})
	}
	// The table need not be valid.
	if got := impl.TableTells(impl.Table{Log: l}); !sameParts(got, []impl.TEv{l[0], l[3], l[4], l[10]}) {
		t.Error("the tells are", got)
	}
	if len(impl.TableTells(impl.Table{})) != 0 {
		t.Error("an empty log has tells")
	}
}

func TestTableMap(t *testing.T) {
	if got := impl.TableMap(someTable(t)); !slices.Equal(got, pairsOf(2, 20, 4, 40, 7, 65535)) {
		t.Error("the map is", got)
	}
	for i, x := range badTables(t) {
		if got := impl.TableMap(x); len(got) != 0 {
			t.Errorf("the map of the invalid table %d is %v", i, got)
		}
	}
	if got := impl.TableMap(impl.TableNew(batches(nil, nil, nil))); len(got) != 0 {
		t.Error("the map of an empty table is", got)
	}
	for _, x := range []struct {
		first, second int
		want          []impl.KV
	}{
		{0, 0, nil},
		{33, 0, pairsOf(2, 20, 4, 40)},
		{0, 33, pairsOf(2, 20, 4, 40)},
		{36, 32, pairsOf(2, 20, 7, 65535)},
		{37, 37, pairsOf(7, 65535, 9, 90)},
		// No chains: its Next is no handle, its slot is free, of another generation, nothing is there.
		{33, 40, nil}, {40, 33, nil}, {41, 36, nil}, {36, 41, nil}, {33, 65, nil}, {215, 33, nil},
	} {
		tab := someTable(t)
		tab.Bkts[0].Head, tab.Bkts[1].Head = x.first, x.second
		if got := impl.TableMap(tab); !slices.Equal(got, x.want) {
			t.Errorf("the map of the heads %d and %d is %v", x.first, x.second, got)
		}
	}
}

// Of several pairs with one key the first one of a chain counts, and a later chain overrides an earlier one.
func TestTableMapOfEqualKeys(t *testing.T) {
	m, h := chained(t, impl.Node{Key: 5, Val: 1}, impl.Node{Key: 4, Val: 2, Next: 32}, impl.Node{Key: 5, Val: 3, Next: 33}, impl.Node{Key: 4, Val: 4}, impl.Node{Key: 3, Val: 5, Next: 37}, impl.Node{Key: 4, Val: 6, Next: 40})
	x := impl.TableNew(batches(nil, nil, nil))
	x.Base.Mem = m
	for _, c := range []struct {
		first, second int
		want          []impl.KV
	}{
		{h[2], 0, pairsOf(4, 2, 5, 3)},
		{h[5], 0, pairsOf(3, 5, 4, 6)},
		{h[2], h[5], pairsOf(3, 5, 4, 6, 5, 3)},
		{h[5], h[2], pairsOf(3, 5, 4, 2, 5, 3)},
		{h[2], h[2], pairsOf(4, 2, 5, 3)},
	} {
		x.Bkts[0].Head, x.Bkts[1].Head = c.first, c.second
		if got := impl.TableMap(x); !slices.Equal(got, c.want) {
			t.Errorf("the map of %d and %d is %v, want %v", c.first, c.second, got, c.want)
		}
	}
}

func TestTablePlaysArePure(t *testing.T) {
	tables := append(everyNth(badTables(t), 15), someTable(t))
	var scripts []impl.TScript
	for i := range 5 {
		s := impl.TScript{Todo: batchesFrom(i), Picks: picksFrom(i, 95*i)}
		scripts = append(scripts, s, impl.TScript{Todo: badTTodos()[i], Picks: []int{0, 1}})
		tables = append(tables, impl.TablePlay(s))
	}
	pureOverAll(t, impl.TablePlay, pool(scripts...))
	pureOverAll(t, impl.TableRounds, pool(tables...), pool(-1, 0, 1, 40))
	pureOverAll(t, impl.TableFinish, pool(tables...))
	pureOverAll(t, impl.TableTells, pool(tables...))
	pureOverAll(t, impl.TableMap, pool(tables...))
}
