package tests

import (
	"math"
	"slices"
	"testing"

	"loop.example/g01538/impl"
)

// replayWant executes the first n serials of the order on a Go map.
func replayWant(l []impl.TEv, n int) ([]impl.KV, bool) {
	m, all := map[int]int{}, true
	for i, serial := range orderWant(l) {
		if i >= n {
			break
		}
		call := placeWant(l, impl.TvCall, serial)
		if call < 0 {
			all = false
			continue
		}
		var results []impl.Res
		for _, c := range l[call].Cmds {
			r := impl.Res{}
			if impl.CmdOk(c) {
				r = cmdWant(m, c)
			}
			results = append(results, r)
		}
		all = all && slices.Equal(results, l[placeWant(l, impl.TvTell, serial)].Res)
	}
	return pairsIn(m), all
}

// checkReplay compares Replay and ReplayTo with the description above.
func checkReplay(t *testing.T, l []impl.TEv) {
	t.Helper()
	want, same := replayWant(l, len(l))
	if got, ok := impl.Replay(l); !impl.SameMap(got, want) || ok != same {
		t.Fatalf("Replay of %v = %v, %t, want %v, %t", l, got, ok, want, same)
	}
	for _, n := range []int{math.MinInt, -1, 0, 1, 2, 3, 4, 8, 100, math.MaxInt} {
		want, _ := replayWant(l, n)
		if got := impl.ReplayTo(l, n); !impl.SameMap(got, want) {
			t.Fatalf("ReplayTo %d of %v = %v, want %v", n, l, got, want)
		}
	}
}

func TestReplayOfAnyLog(t *testing.T) {
	for x := range 300 {
		checkReplay(t, logFrom(x, x%30))
	}
	checkReplay(t, nil)
}

func TestReplayExamples(t *testing.T) {
	five := []impl.TEv{
		calls(1, put(4, 5), add(4, 6)), point(1), tells(1, impl.CdOk, impl.Res{}, impl.Res{Is: true, Val: 11}),
		calls(2, get(4), del(4), get(4)), calls(3, put(7, 1)), point(2), point(3), tells(3, impl.CdOk, impl.Res{}),
		tells(2, impl.CdOk, impl.Res{Is: true, Val: 11}, impl.Res{}, impl.Res{}),
	}
	checkReplay(t, five)
	if m, ok := impl.Replay(five); !ok || !impl.SameMap(m, pairsOf(7, 1)) {
		t.Error("Replay =", m, ok)
	}
	for n, want := range [][]impl.KV{nil, pairsOf(4, 11), nil, pairsOf(7, 1), pairsOf(7, 1)} {
		if got := impl.ReplayTo(five, n); !impl.SameMap(got, want) {
			t.Errorf("ReplayTo %d = %v", n, got)
		}
	}
	// Without its call a serial leaves the map as it is, and those after it are executed nevertheless.
	if m, ok := impl.Replay(five[1:]); ok || !impl.SameMap(m, pairsOf(7, 1)) {
		t.Error("without the first call Replay =", m, ok)
	}
	// The first call and the first tell count.
	twice := slices.Concat(five, []impl.TEv{calls(1, put(1, 1)), tells(3, impl.CdOk)})
	if m, ok := impl.Replay(twice); !ok || !impl.SameMap(m, pairsOf(7, 1)) {
		t.Error("with second events Replay =", m, ok)
	}
	for i, change := range []func(l []impl.TEv){
		func(l []impl.TEv) { l[2].Res = []impl.Res{{}, {Is: true, Val: 12}} },
		func(l []impl.TEv) { l[2].Res = []impl.Res{{}, {Val: 11}} },
		func(l []impl.TEv) { l[2].Res = []impl.Res{{}} },
		func(l []impl.TEv) { l[2].Res = []impl.Res{{}, {Is: true, Val: 11}, {}} },
		func(l []impl.TEv) { l[2].Res = nil },
		func(l []impl.TEv) { l[0].Cmds = []impl.Cmd{put(4, 5), add(4, 7)} },
		func(l []impl.TEv) { l[8].Res = []impl.Res{{Is: true, Val: 11}, {}, {Is: true}} },
		func(l []impl.TEv) { l[7].Res = []impl.Res{{Is: true}} },
		func(l []impl.TEv) { l[1], l[5] = l[5], l[1] },
	} {
		l := slices.Clone(five)
		change(l)
		checkReplay(t, l)
		if _, ok := impl.Replay(l); ok {
			t.Errorf("the log with change %d is replayed", i)
		}
	}
}

// A log may contain batches of any length, and every result is compared.
func TestReplayOfLongBatches(t *testing.T) {
	for n := range 20 {
		var cmds []impl.Cmd
		var results []impl.Res
		for i := range n {
			cmds = append(cmds, add(i%3, 1000))
			results = append(results, impl.Res{Is: true, Val: 1000 * (i/3 + 1)})
		}
		l := []impl.TEv{calls(1, cmds...), point(1), tells(1, impl.CdOk, results...)}
		if _, ok := impl.Replay(l); !ok {
			t.Errorf("%d results are not those of the replay", n)
		}
		for i := range n {
			other := slices.Clone(results)
			other[i].Val++
			l[2].Res = other
			if _, ok := impl.Replay(l); ok {
				t.Errorf("of %d results number %d is not compared", n, i)
			}
			l[2].Res = results[:i]
			if _, ok := impl.Replay(l); ok {
				t.Errorf("of %d results only %d are compared", n, i)
			}
		}
		l[2].Res = append(slices.Clone(results), impl.Res{})
		if _, ok := impl.Replay(l); ok {
			t.Errorf("%d results and one more are those of the replay", n)
		}
	}
}

func TestFailureAfterTheSerializationPoint(t *testing.T) {
	l := []impl.TEv{calls(1, put(4, 5)), point(1), calls(2, get(4), put(4, 9)), point(2), tells(1, impl.CdOk, impl.Res{}), tells(2, impl.CdClash)}
	for _, code := range []int{impl.CdArgs, impl.CdFull, impl.CdStall, impl.CdClash} {
		l[5].Code = code
		checkReplay(t, l)
		if m, ok := impl.Replay(l); !ok || !impl.SameMap(m, pairsOf(4, 5)) || impl.SerialOk(impl.Table{Log: l}) || !impl.SerialOk(impl.Table{Log: l, Jobs: []impl.TJob{{Busy: true}}}) {
			t.Errorf("with the code %d Replay = %v, %t", code, m, ok)
		}
	}
	// In a schedule: the bucket that was read is written between the serialization point and the validation.
	x := impl.TableNew(batches([]impl.Batch{batch(get(4), put(7, 3))}, []impl.Batch{batch(put(4, 1))}, nil))
	x = goOn(t, x, 0, impl.TpLock)
	x = goOn(t, x, 0, impl.TpValid)
	x, _ = done(t, x, 1)
	x, e := done(t, x, 0)
	if e.Code != impl.CdClash || impl.PlaceOf(x.Log, impl.TvPoint, 1) < 0 || !slices.Equal(impl.Order(x.Log), []int{2}) {
		t.Errorf("the batch tells %+v, and the log is %v", e, x.Log)
	}
	if !impl.SerialOk(x) || !impl.SameMap(impl.TableMap(x), pairsOf(4, 1)) {
		t.Errorf("the map is %v", impl.TableMap(x))
	}
}

func TestSerialOk(t *testing.T) {
	x := impl.TableFinish(impl.TableNew(batches([]impl.Batch{batch(put(4, 5), add(4, 6))}, []impl.Batch{batch(add(4, 6)), batch(get(4))}, nil)))
	if !impl.SerialOk(x) {
		t.Fatal("the end of a schedule is refused")
	}
	busy := func(x impl.Table) impl.Table {
		y := copyOfTable(x)
		y.Jobs[2] = impl.TJob{Busy: true}
		return y
	}
	for i, c := range []struct {
		change      func(x *impl.Table)
		idle, while bool
	}{
		{func(x *impl.Table) {}, true, true},
		// What is not in the log only counts if the table is idle.
		{func(x *impl.Table) { x.Serial = -1 }, false, true},
		{func(x *impl.Table) { x.Bkts = nil }, false, true},
		{func(x *impl.Table) { x.Bkts[0].Head = 0 }, false, true},
		{func(x *impl.Table) { x.Base.Mem, _ = impl.StoreIn(x.Base.Mem, x.Bkts[0].Head, 2, 4, 18) }, false, true},
		{func(x *impl.Table) { x.Base.Mem, _ = impl.StoreIn(x.Base.Mem, x.Bkts[0].Head, 0, 2, 6) }, false, true},
		{func(x *impl.Table) { x.Log = nil }, false, true},
		{func(x *impl.Table) { x.Log = x.Log[1:] }, false, false},
		{func(x *impl.Table) { x.Log = append([]impl.TEv{point(3)}, x.Log...) }, false, false},
	} {
		y := copyOfTable(x)
		c.change(&y)
		if impl.SerialOk(y) != c.idle || impl.SerialOk(busy(y)) != c.while {
			t.Errorf("change %d: SerialOk = %t, and %t with a busy job", i, impl.SerialOk(y), impl.SerialOk(busy(y)))
		}
	}
	y := copyOfTable(x)
	y.Todo[1].List = []impl.Batch{{}}
	if !impl.SerialOk(y) {
		t.Error("a table with a queue is idle")
	}
	// The results are right, but the order is against time.
	against := []impl.TEv{point(2), calls(1, get(1)), point(1), tells(1, impl.CdOk, impl.Res{}), calls(2, get(1)), tells(2, impl.CdOk, impl.Res{})}
	if _, ok := impl.Replay(against); !ok || impl.SerialOk(impl.Table{Log: against, Jobs: []impl.TJob{{Busy: true}}}) {
		t.Error("an order against time is accepted")
	}
	if impl.SerialOk(impl.Table{}) {
		t.Error("an idle table that is invalid is accepted")
	}
}

// checkSerial checks promise 26 for a schedule.
func checkSerial(t *testing.T, s impl.TScript) impl.Table {
	t.Helper()
	x := impl.TableFinish(impl.TablePlay(s))
	if !impl.TableIdle(x) || !impl.SerialOk(x) {
		t.Fatalf("the schedule %v does not end well: %+v", s, x)
	}
	want, same := replayWant(x.Log, len(x.Log))
	if !same || !strictWant(x.Log) || !impl.SameMap(impl.TableMap(x), want) {
		t.Fatalf("the schedule %v is not serializable: %+v", s, x)
	}
	return x
}

// rushes returns picks in which workers take runs of steps, so that a batch is overtaken by whole batches.
func rushes(x int) []int {
	var picks []int
	for _, y := range spread(60+x, 1<<40)[x:] {
		picks = append(picks, slices.Repeat([]int{y % 3}, 1+y/3%[]int{1, 3, 10, 30}[y/100%4])...)
	}
	return picks
}

// stalls returns a workload in which worker 0 collects so often that it marks the pins of others, and changes what they read.
func stalls(x int) impl.TScript {
	todo := batches(slices.Repeat([]impl.Batch{collect, batch(put(4, x), del(2))}, 6), slices.Repeat(racers()[:2], 3), slices.Repeat(racers()[3:5], 3))
	todo[0].List[2], todo[0].List[4], todo[0].List[0] = collect, batch(add(2, 1), put(7, 1)), batch(put(2, 1), put(4, 2), put(7, 3))
	for i := 5; i < 11; i++ {
		todo[0].List[i] = collect
	}
	picks := slices.Repeat([]int{0}, 40+x%40)
	for _, y := range spread(12+x, 1<<40)[x:] {
		picks = append(picks, slices.Repeat([]int{1 + y%2}, 3+y/2%9)...)
		picks = append(picks, slices.Repeat([]int{0}, 10+y/100%50)...)
	}
	return impl.TScript{Todo: todo, Picks: picks}
}

func TestSchedulesAreSerializable(t *testing.T) {
	codes := map[int]int{}
	for i := range 250 {
		for _, s := range []impl.TScript{{Todo: batchesFrom(i), Picks: rushes(i)}, stalls(i)} {
			x := checkSerial(t, s)
			for code := range 9 {
				codes[code] += impl.Codes(x.Log, code)
			}
		}
	}
	if codes[impl.CdOk] < 1000 || codes[impl.CdClash] < 200 || codes[impl.CdStall] < 20 {
		t.Error("the codes of the schedules are", codes)
	}
}

// overtaken calls see with schedules in which worker 0 performs some steps, then worker 1 does, and then worker 0 goes on.
func overtaken(first impl.Batch, second impl.Batch, from int, see func(impl.TScript)) {
	start := []impl.Batch{batch(put(2, 20), put(4, 40), put(7, 70))}
	for i := range 45 {
		for k := (from + i) % 5; k < 60; k += 5 {
			picks := slices.Concat(slices.Repeat([]int{2}, 60), slices.Repeat([]int{0}, i), slices.Repeat([]int{1}, k+1), slices.Repeat([]int{0}, 70))
			see(impl.TScript{Todo: batches([]impl.Batch{first}, []impl.Batch{second}, start), Picks: picks})
		}
	}
}

// racers are batches that read or write what others write.
func racers() []impl.Batch {
	return []impl.Batch{batch(add(4, 1), get(7)), batch(get(4), get(7)), batch(put(4, 41), put(7, 71)), batch(del(4), add(7, 5)), batch(get(2), put(6, 60)), batch(del(2), put(9, 90), del(7))}
}

func TestOvertakenBatches(t *testing.T) {
	for a, first := range racers() {
		for b, second := range racers() {
			overtaken(first, second, a+b, func(s impl.TScript) { checkSerial(t, s) })
		}
	}
}

// No addition is lost: the sum is that of the batches that succeed.
func TestNoAdditionIsLost(t *testing.T) {
	for i := range 60 {
		todo := batches(nil, nil, nil)
		for w := range todo {
			for k := range 6 {
				todo[w].List = append(todo[w].List, batch(add(3, 1<<(w+3*(k%5))), add(4, 1)))
			}
		}
		x := checkSerial(t, impl.TScript{Todo: todo, Picks: rushes(i)})
		sum, n := 0, 0
		for _, e := range impl.TableTells(x) {
			if e.Code == impl.CdOk {
				cmds := x.Log[impl.PlaceOf(x.Log, impl.TvCall, e.Serial)].Cmds
				sum += cmds[0].Val
				n++
			}
		}
		var want []impl.KV
		if n > 0 {
			want = pairsOf(3, sum%65536, 4, n)
		}
		if got := impl.TableMap(x); !impl.SameMap(got, want) {
			t.Fatalf("schedule %d: the sums are %v, want %v", i, got, want)
		}
	}
}

// A batch that reads two keys sees one state: all writers store the same value for both.
func TestTwoKeysOfOneState(t *testing.T) {
	both := 0
	for i := range 60 {
		todo := batches(nil, nil, nil)
		for k := range 5 {
			todo[0].List = append(todo[0].List, batch(put(4, 100+k), put(7, 100+k)))
			todo[1].List = append(todo[1].List, batch(get(4), get(7)))
			todo[2].List = append(todo[2].List, batch(put(7, 200+k), get(4), put(4, 200+k), get(7)))
		}
		x := checkSerial(t, impl.TScript{Todo: todo, Picks: rushes(i)})
		for _, e := range impl.TableTells(x) {
			if e.Who == 1 && e.Code == impl.CdOk {
				both++
				if e.Res[0] != e.Res[1] {
					t.Fatalf("schedule %d: a batch sees %v", i, e.Res)
				}
			}
		}
	}
	if both < 50 {
		t.Error("only so many batches have read:", both)
	}
}

// TestBatchesThatFailChangeNothing checks promise 27 where a batch fails alone, without a node or at the last version.
func TestBatchesThatFailChangeNothing(t *testing.T) {
	x := impl.TableNew(batches([]impl.Batch{batch(put(1, 1), put(2, 2), put(3, 3), put(4, 4), put(5, 5), put(6, 6))}, nil, nil))
	x, _ = done(t, x, 0)
	full := func(x impl.Table, b impl.Batch, w int, want int) {
		t.Helper()
		before := impl.TableMap(x)
		x.Todo[w].List = []impl.Batch{b}
		x, e := done(t, x, w)
		if e.Code != want || want != impl.CdOk && (!impl.SameMap(impl.TableMap(x), before) || len(e.Res) > 0) || !impl.SerialOk(x) {
			t.Errorf("%+v tells %+v, and the map is %v", b, e, impl.TableMap(x))
		}
	}
	for w := range impl.Workers {
		y := copyOfTable(x)
		y.Bkts[0].Ver = impl.MaxVer
		full(y, batch(put(1, 9), put(2, 9)), w, impl.CdFull)
		full(y, batch(add(3, 9), del(4)), w, impl.CdFull)
		full(y, batch(get(4), add(3, 9)), w, impl.CdOk)
		// The other bucket has not been locked yet, or is unlocked without a new version.
		y = copyOfTable(x)
		y.Bkts[1].Ver = impl.MaxVer
		full(y, batch(put(1, 9), put(2, 9)), w, impl.CdFull)
		full(y, batch(get(1), get(3)), w, impl.CdOk)
		// The six nodes fill three pages, and the other pages are granted for other sizes.
		y = copyOfTable(x)
		for range 3 {
			y.Base.Mem, _, _ = impl.AllocNow(y.Base.Mem, w, 40)
		}
		full(y, batch(put(1, 9)), w, impl.CdFull)
		full(y, batch(del(1), get(2)), w, impl.CdOk)
	}
}

// TestBatchesAlone checks promise 27 in the states that schedules reach.
func TestBatchesAlone(t *testing.T) {
	codes := map[int]int{}
	for i := range 60 {
		todo := batchesFrom(i)
		x := impl.TableFinish(impl.TablePlay(impl.TScript{Todo: todo, Picks: rushes(i)}))
		for k := range 12 {
			w := (i + k) % 3
			before := impl.TableMap(x)
			b := batch(cmdsFrom(100*i+k, 1+k%6)...)
			x.Todo[w].List = []impl.Batch{b}
			next, e := done(t, x, w)
			x = next
			want, results := impl.CmdsDo(before, b.Cmds)
			if e.Code == impl.CdFull {
				want, results = before, nil
			}
			if e.Code != impl.CdOk && e.Code != impl.CdFull || !impl.SameMap(impl.TableMap(x), want) || !slices.Equal(e.Res, results) {
				t.Fatalf("schedule %d: %+v alone tells %+v, and the map is %v", i, b, e, impl.TableMap(x))
			}
			codes[e.Code]++
		}
	}
	if codes[impl.CdOk] < 200 || codes[impl.CdFull] < 200 {
		t.Error("the codes are", codes)
	}
}

func TestReplaysArePure(t *testing.T) {
	x := impl.TableFinish(impl.TableNew(batchesFrom(1)))
	logs := pool(nil, logFrom(1, 9), logFrom(2, 23), x.Log, impl.TableRounds(impl.TableNew(batchesFrom(2)), 300).Log)
	pureOverAll(t, impl.Replay, logs)
	pureOverAll(t, impl.ReplayTo, logs, pool(-1, 0, 1, 3, 50))
	pureOverAll(t, impl.SerialOk, pool(append(everyNth(badTables(t), 20), x, someTable(t), impl.TableRounds(impl.TableNew(batchesFrom(2)), 300))...))
}
