package tests

import (
	"math"
	"reflect"
	"slices"
	"testing"

	"loop.example/g01538/impl"
)

func batch(cmds ...impl.Cmd) impl.Batch { return impl.Batch{Cmds: cmds} }

func get(key int) impl.Cmd { return impl.Cmd{Kind: impl.CmGet, Key: key} }

func put(key int, val int) impl.Cmd { return impl.Cmd{Kind: impl.CmPut, Key: key, Val: val} }

func del(key int) impl.Cmd { return impl.Cmd{Kind: impl.CmDel, Key: key} }

func add(key int, val int) impl.Cmd { return impl.Cmd{Kind: impl.CmAdd, Key: key, Val: val} }

var collect = impl.Batch{Collect: true}

// batches makes a workload of one queue for each worker.
func batches(lists ...[]impl.Batch) []impl.TQueue {
	todo := make([]impl.TQueue, len(lists))
	for w, l := range lists {
		todo[w].List = l
	}
	return todo
}

func copyOfTable(t impl.Table) impl.Table {
	return deepCopy(reflect.ValueOf(t), false).Interface().(impl.Table)
}

// sameParts compares two values by all their fields; every empty slice is as good as nil.
func sameParts(a any, b any) bool {
	return reflect.DeepEqual(deepCopy(reflect.ValueOf(a), false).Interface(), deepCopy(reflect.ValueOf(b), false).Interface())
}

// someTable returns a table whose bucket 0 has the chain 33, 32 with the keys 4 and 2, and whose bucket 1, which worker 2
// has locked, has the chain 36 with the key 7. 37 is in limbo, and its node leads to 36; 40 is in use, but in no chain,
// and its Next is no handle; the slot of 41 is free. Worker 0 has a pin that protects, worker 2 a marked one, and worker 1 none.
func someTable(t *testing.T) impl.Table {
	t.Helper()
	m, _ := chained(t, impl.Node{Key: 2, Val: 20}, impl.Node{Key: 4, Val: 40, Next: 32}, impl.Node{Key: 7, Val: 65535},
		impl.Node{Key: 9, Val: 90, Next: 36}, impl.Node{Key: 1, Val: 10}, impl.Node{})
	m, _ = impl.StoreIn(m, 40, 6, 4, 31)
	x := impl.Table{
		Base: impl.Base{
			Mem:   mustFree(t, m, 0, 41),
			Clock: clockOf(5, impl.Pin{On: true, Epoch: 4, Seen: 1}, impl.Pin{}, impl.Pin{On: true, Epoch: 3, Marked: true}),
			Limbo: limboOf(nil, [][2]int{{37, 4}}, nil),
			Haz:   []int{0, 36, 0},
		},
		Bkts:   []impl.Bkt{{Head: 33, Ver: 5}, {Head: 36, Ver: 6, Lock: 3}},
		Jobs:   make([]impl.TJob, 3),
		Todo:   batches([]impl.Batch{batch(get(4))}, []impl.Batch{collect, batch(put(1, 2), add(4, 3))}, []impl.Batch{batch(del(7))}),
		Log:    []impl.TEv{{Kind: impl.TvCall, Serial: 1, Cmds: []impl.Cmd{get(1)}}, {Kind: impl.TvTell, Serial: 1, Res: []impl.Res{{}}}},
		Serial: 40,
	}
	if !impl.TableOk(x) {
		t.Fatal("a valid table is refused:", x)
	}
	return x
}

// oddTJob returns a job whose other fields have values that no step gives them.
func oddTJob(b impl.Batch, pc int) impl.TJob {
	return impl.TJob{
		Busy: true, Batch: b, Serial: 23, Pc: pc, K: 50, Bkt: 1, Ver: 77, H: 37, Prev: 104, Node: impl.Node{Key: -5, Val: 1 << 20, Next: 3},
		Found: true, Code: impl.CdNone, Sub: odd(99, 98, 97), Reads: []impl.Seen{{Bkt: 0, Ver: 5}}, Writes: []impl.Write{puts(2, 9), dels(7)},
		Res: []impl.Res{{Is: true, Val: 3}}, New: []int{40}, Held: []int{1, 0}, Olds: []int{33},
	}
}

func fullBatch() impl.Batch {
	return batch(get(0), put(99, 65535), del(50), add(0, 0), put(0, 0), add(99, 65535))
}

func goodBatches() []impl.Batch {
	return []impl.Batch{collect, batch(get(4)), batch(put(1, 2), add(4, 3)), fullBatch(), {Collect: true, Cmds: []impl.Cmd{}}}
}

func badBatches() []impl.Batch {
	bad := []impl.Batch{{}, batch(append(fullBatch().Cmds, get(1))...), {Collect: true, Cmds: []impl.Cmd{get(1)}}, {Collect: true, Cmds: fullBatch().Cmds}, batch(impl.Cmd{})}
	for _, c := range badCmds() {
		bad = append(bad, batch(c), batch(get(1), c), batch(c, get(1)))
	}
	return bad
}

// badTTodos returns invalid workloads of a table.
func badTTodos() [][]impl.TQueue {
	full := slices.Repeat([]impl.Batch{batch(get(1))}, 12)
	bad := [][]impl.TQueue{nil, {}, batches(nil), batches(nil, nil), batches(nil, nil, nil, nil)}
	for w := range impl.Workers {
		long := batches(full, full, full)
		long[w].List = append(slices.Clone(full), collect)
		bad = append(bad, long)
		for _, b := range everyNth(badBatches(), 6) {
			for _, i := range []int{0, 11} {
				todo := batches(slices.Clone(full), slices.Clone(full), slices.Clone(full))
				todo[w].List[i] = b
				bad = append(bad, todo)
			}
		}
	}
	return bad
}

// badJobs returns jobs that make a table invalid.
func badJobs() []impl.TJob {
	var bad []impl.TJob
	with := func(change func(job *impl.TJob)) {
		job := oddTJob(fullBatch(), 9)
		change(&job)
		bad = append(bad, job)
	}
	// 121 would be a handle of slot 25.
	for _, x := range []int{math.MinInt, -1, 121, math.MaxInt} {
		with(func(job *impl.TJob) { job.K = x })
		with(func(job *impl.TJob) { job.H = x })
		with(func(job *impl.TJob) { job.Prev = x })
		with(func(job *impl.TJob) { job.Bkt = x })
		with(func(job *impl.TJob) { job.At = x })
		with(func(job *impl.TJob) { job.New = []int{32, x} })
		with(func(job *impl.TJob) { job.Olds = []int{x, 32} })
		with(func(job *impl.TJob) { job.Held = []int{0, x} })
		with(func(job *impl.TJob) { job.Reads = []impl.Seen{{}, {Bkt: x, Ver: 1}} })
		with(func(job *impl.TJob) { job.Writes = []impl.Write{puts(x, 1)} })
	}
	for _, change := range []func(job *impl.TJob){
		func(job *impl.TJob) { job.K = 101 },
		func(job *impl.TJob) { job.H = 31 },
		func(job *impl.TJob) { job.Prev = 224 },
		func(job *impl.TJob) { job.Bkt = 2 },
		func(job *impl.TJob) { job.At = 7 },
		func(job *impl.TJob) { job.Batch, job.At = batch(get(1)), 2 },
		func(job *impl.TJob) { job.Batch, job.At = collect, 1 },
		func(job *impl.TJob) { job.New = []int{0} },
		func(job *impl.TJob) { job.New = slices.Repeat([]int{32}, 7) },
		func(job *impl.TJob) { job.Olds = []int{33, 0} },
		func(job *impl.TJob) { job.Olds = []int{33, 33, 33, 33, 33, 33, 33} },
		func(job *impl.TJob) { job.Held = []int{0, 0} },
		func(job *impl.TJob) { job.Held = []int{1, 0, 1} },
		func(job *impl.TJob) { job.Held = []int{2} },
		func(job *impl.TJob) { job.Reads = []impl.Seen{{Bkt: 2}} },
		func(job *impl.TJob) { job.Writes = []impl.Write{puts(1, 65536)} },
		func(job *impl.TJob) { job.Writes = []impl.Write{{Key: 1, Del: true, Val: -1}} },
		func(job *impl.TJob) { job.Writes = []impl.Write{puts(1, 1), puts(1, 1)} },
		func(job *impl.TJob) { job.Writes = []impl.Write{puts(1, 1), puts(3, 1), dels(2)} },
		func(job *impl.TJob) { job.Writes = []impl.Write{puts(1, 1), puts(100, 1)} },
		func(job *impl.TJob) {
			job.Writes = []impl.Write{dels(1), dels(2), dels(3), dels(4), dels(5), dels(6), dels(7)}
		},
	} {
		with(change)
	}
	for _, b := range everyNth(badBatches(), 4) {
		with(func(job *impl.TJob) { job.Batch, job.At = b, 0 })
	}
	return append(bad, notBusy()...)
}

// notBusy returns jobs that are not Busy, but not the zero value either.
func notBusy() []impl.TJob {
	return []impl.TJob{
		{Batch: collect}, {Batch: batch(get(1))}, {Serial: 1}, {Pc: 1}, {At: 1}, {K: 1}, {Bkt: 1}, {Ver: 1}, {H: 32}, {Prev: 32},
		{Node: impl.Node{Key: 1}}, {Node: impl.Node{Val: 1}}, {Node: impl.Node{Next: 32}}, {Found: true}, {Code: 1}, {Sub: impl.Sub{Done: true}},
		{Sub: impl.SubNew(impl.SbPin, 0)}, {Reads: []impl.Seen{{}}}, {Writes: []impl.Write{{}}}, {Res: []impl.Res{{}}},
		{New: []int{32}}, {Held: []int{0}}, {Olds: []int{32}},
	}
}

// badTables returns tables that are invalid for one reason each.
func badTables(t *testing.T) []impl.Table {
	var bad []impl.Table
	with := func(change func(x *impl.Table)) {
		x := someTable(t)
		change(&x)
		bad = append(bad, x)
	}
	for _, b := range everyNth(badBases(t), 7) {
		with(func(x *impl.Table) { x.Base = b })
	}
	for i, b := range badBkts() {
		with(func(x *impl.Table) { x.Bkts[i%2] = b })
	}
	for _, n := range []int{0, 1, 3} {
		with(func(x *impl.Table) { x.Bkts = make([]impl.Bkt, n) })
	}
	for _, n := range []int{0, 1, 2, 4} {
		with(func(x *impl.Table) { x.Jobs = make([]impl.TJob, n) })
	}
	for _, todo := range everyNth(badTTodos(), 3) {
		with(func(x *impl.Table) { x.Todo = todo })
	}
	for _, serial := range []int{math.MinInt, -1, 1000001, math.MaxInt} {
		with(func(x *impl.Table) { x.Serial = serial })
	}
	for i, job := range badJobs() {
		with(func(x *impl.Table) { x.Jobs[i%3] = job })
	}
	return append(bad, impl.Table{})
}

func TestTableConstants(t *testing.T) {
	for i, pc := range []int{
		impl.TpPin, impl.TpNext, impl.TpHead, impl.TpWalk, impl.TpMark, impl.TpCheck, impl.TpAlloc, impl.TpLock, impl.TpValid, impl.TpFind, impl.TpStep,
		impl.TpCut, impl.TpFill, impl.TpLink, impl.TpUnlock, impl.TpRetire, impl.TpUndo, impl.TpDrop, impl.TpUnpin, impl.TpTell, impl.TpAdvance, impl.TpCollect,
	} {
		if pc != i {
			t.Errorf("constant %d is %d", i, pc)
		}
	}
	if impl.TvCall != 1 || impl.TvPoint != 2 || impl.TvTell != 3 {
		t.Error("the events are", impl.TvCall, impl.TvPoint, impl.TvTell)
	}
}

func TestBatchOk(t *testing.T) {
	for _, b := range goodBatches() {
		if !impl.BatchOk(b) {
			t.Errorf("the batch %+v is refused", b)
		}
	}
	for _, b := range badBatches() {
		if impl.BatchOk(b) {
			t.Errorf("the batch %+v is accepted", b)
		}
	}
}

func TestTableNew(t *testing.T) {
	full := slices.Repeat(goodBatches()[:4], 3)
	for _, todo := range [][]impl.TQueue{batches(nil, nil, nil), batches(full, full, full), batches(nil, goodBatches(), nil)} {
		x := impl.TableNew(todo)
		want := impl.Table{Base: impl.BaseNew(), Bkts: make([]impl.Bkt, 2), Jobs: make([]impl.TJob, 3), Todo: todo}
		if !sameParts(x, want) || !impl.TableOk(x) {
			t.Errorf("TableNew of %v is %v", todo, x)
		}
	}
	for _, todo := range badTTodos() {
		if x := impl.TableNew(todo); !sameParts(x, impl.Table{}) || impl.TableOk(x) {
			t.Errorf("TableNew of the invalid workload %v is %v", todo, x)
		}
	}
}

func TestTableOk(t *testing.T) {
	for i, x := range badTables(t) {
		if impl.TableOk(x) {
			t.Errorf("the invalid table %d is accepted: %+v", i, x)
		}
	}
	for _, job := range badJobs() {
		x := someTable(t)
		for w := range x.Jobs {
			x.Jobs = make([]impl.TJob, 3)
			x.Jobs[w] = job
			if impl.TableOk(x) {
				t.Errorf("worker %d may have the invalid job %+v", w, job)
			}
		}
	}
}

func TestTablesThatAreValid(t *testing.T) {
	for i, change := range []func(x *impl.Table){
		func(x *impl.Table) { x.Serial = 0 },
		func(x *impl.Table) { x.Serial = 1000000 },
		func(x *impl.Table) { x.Log = nil },
		func(x *impl.Table) {
			x.Log = []impl.TEv{{Kind: -5, Who: 77, Serial: -1, Code: -2, Cmds: badCmds(), Res: []impl.Res{{Val: -1}}}}
		},
		func(x *impl.Table) { x.Bkts = []impl.Bkt{{Head: 215, Ver: 1000000, Lock: 3}, {Head: 215, Lock: 3}} },
		func(x *impl.Table) {
			for w := range x.Jobs {
				x.Jobs[w] = oddTJob(goodBatches()[w], -w)
			}
		},
		func(x *impl.Table) {
			x.Jobs[1] = impl.TJob{
				Busy: true, Batch: fullBatch(), Serial: -9, Pc: math.MinInt, At: 6, K: 100, Ver: -1, Node: impl.Node{Key: math.MaxInt, Val: math.MinInt, Next: -1},
				Code: 99, Sub: impl.Sub{Kind: -1, H: 1, Done: true}, Reads: slices.Repeat([]impl.Seen{{Bkt: 1, Ver: -7}}, 300),
				Writes: []impl.Write{puts(0, 0), puts(1, 65535), {Key: 5, Del: true, Val: 65535}, dels(6), dels(50), puts(99, 1)},
				Res:    slices.Repeat([]impl.Res{{Val: -4}}, 20), New: slices.Repeat([]int{215}, 6), Held: []int{1, 0}, Olds: slices.Repeat([]int{32}, 6),
			}
		},
	} {
		x := someTable(t)
		change(&x)
		if !impl.TableOk(x) {
			t.Errorf("the valid table %d is refused: %+v", i, x)
		}
	}
}

// A job that is not busy is the zero value, also where a slice is empty instead of nil.
func TestJobThatIsNotBusy(t *testing.T) {
	empty := impl.TJob{Batch: impl.Batch{Cmds: []impl.Cmd{}}, Reads: []impl.Seen{}, Writes: []impl.Write{}, Res: []impl.Res{}, New: []int{}, Held: []int{}, Olds: []int{}}
	for w := range impl.Workers {
		x := someTable(t)
		x.Jobs[w] = empty
		if !impl.TableOk(x) || !impl.SameTable(x, someTable(t)) {
			t.Errorf("a job of worker %d without anything is refused", w)
		}
		for _, job := range notBusy() {
			x.Jobs[w] = job
			if impl.TableOk(x) {
				t.Errorf("the job %+v is accepted", job)
			}
		}
	}
}

func TestTableIdle(t *testing.T) {
	if !impl.TableIdle(impl.Table{}) || !impl.TableIdle(impl.TableNew(batches(nil, nil, nil))) || impl.TableIdle(someTable(t)) {
		t.Error("a table without work is idle, one with work is not")
	}
	for w := range 5 {
		x := impl.Table{Jobs: make([]impl.TJob, 5), Todo: make([]impl.TQueue, 5)}
		x.Jobs[w].K = 4
		if !impl.TableIdle(x) {
			t.Error("a job that is not Busy is no work")
		}
		x.Jobs[w] = impl.TJob{Busy: true}
		if impl.TableIdle(x) {
			t.Errorf("the job of worker %d is work", w)
		}
		x.Jobs[w] = impl.TJob{}
		x.Todo[w].List = []impl.Batch{{}}
		if impl.TableIdle(x) {
			t.Errorf("the queue of worker %d is work", w)
		}
	}
}

// eachChange calls see with copies of the value in each of which one number, boolean or length is different.
func eachChange(v reflect.Value, see func()) {
	switch v.Kind() {
	case reflect.Struct:
		for i := range v.NumField() {
			eachChange(v.Field(i), see)
		}
	case reflect.Slice:
		old := v.Interface()
		for i := range v.Len() {
			eachChange(v.Index(i), see)
		}
		if v.Len() > 0 {
			v.Set(v.Slice(0, v.Len()-1))
			see()
		}
		v.Set(reflect.Append(reflect.ValueOf(old).Slice3(0, reflect.ValueOf(old).Len(), reflect.ValueOf(old).Len()), reflect.Zero(v.Type().Elem())))
		see()
		v.Set(reflect.ValueOf(old))
	case reflect.Int:
		v.SetInt(v.Int() + 1)
		see()
		v.SetInt(v.Int() - 1)
	case reflect.Bool:
		v.SetBool(!v.Bool())
		see()
		v.SetBool(!v.Bool())
	}
}

func TestSameTable(t *testing.T) {
	good := someTable(t)
	good.Jobs[1] = oddTJob(fullBatch(), 4)
	good.Log = append(good.Log, impl.TEv{Kind: 3, Who: 1, Serial: 2, Code: 7, Cmds: []impl.Cmd{get(1), put(2, 3)}, Res: []impl.Res{{Is: true, Val: 4}}})
	if !impl.SameTable(good, copyOfTable(good)) || !impl.SameTable(impl.Table{}, impl.Table{Bkts: []impl.Bkt{}, Log: []impl.TEv{}}) {
		t.Error("equal tables differ")
	}
	other, n := copyOfTable(good), 0
	eachChange(reflect.ValueOf(&other).Elem(), func() {
		n++
		if impl.SameTable(good, other) || impl.SameTable(other, good) {
			t.Fatalf("another table is the same: %+v", other)
		}
	})
	if n < 650 || !impl.SameTable(good, other) {
		t.Errorf("there are %d changes", n)
	}
}

func TestTablesArePure(t *testing.T) {
	x := someTable(t)
	x.Jobs[2] = oddTJob(fullBatch(), 4)
	tables := pool(append(everyNth(badTables(t), 5), x)...)
	pureOverAll(t, impl.BatchOk, pool(append(goodBatches(), badBatches()...)...))
	pureOverAll(t, impl.TableNew, pool(append(badTTodos(), batches(goodBatches(), nil, goodBatches()), batches(nil, nil, nil))...))
	pureOverAll(t, impl.TableOk, tables)
	pureOverAll(t, impl.TableIdle, tables)
	pureOverAll(t, impl.SameTable, tables, pool(impl.Table{}, x))
}
