package tests

import (
	"math"
	"slices"
	"testing"

	"loop.example/g01538/impl"
)

// turns checks that a step of the job of worker w leads to the job to, and changes the table as change does.
func turns(t *testing.T, x impl.Table, w int, job impl.TJob, to impl.TJob, change func(x *impl.Table)) {
	t.Helper()
	x = copyOfTable(x)
	x.Jobs[w] = job
	want := copyOfTable(x)
	want.Jobs[w] = to
	if change != nil {
		change(&want)
	}
	next := impl.TableStep(x, w)
	if len(next.Jobs) != 3 || !sameParts(next.Jobs[w], to) {
		t.Errorf("the step of worker %d and %+v gives %+v, want %+v", w, job, next.Jobs, to)
		return
	}
	if !sameParts(next, want) {
		t.Errorf("the step of worker %d and %+v gives %+v, want %+v", w, job, next, want)
	}
	if !impl.TableOk(next) {
		t.Errorf("the step of worker %d and %+v makes the table invalid", w, job)
	}
}

// more appends to a copy of the list.
func more[T any](list []T, x ...T) []T {
	return append(slices.Clone(list), x...)
}

func aborted(job impl.TJob, code int) impl.TJob {
	job.Code, job.Pc = code, impl.TpUndo
	return job
}

func withPc(job impl.TJob, pc int) impl.TJob {
	job.Pc = pc
	return job
}

// sixWrites are as many as a transaction may have.
func sixWrites() []impl.Write {
	return []impl.Write{puts(1, 11), dels(2), puts(5, 55), puts(6, 66), dels(7), puts(98, 65535)}
}

func TestStepWord(t *testing.T) {
	words := []string{
		"pin", "next", "head", "walk", "mark", "check", "alloc", "lock", "valid", "find", "step", "cut", "fill", "link", "unlock", "retire",
		"undo", "drop", "unpin", "tell", "advance", "collect",
	}
	for pc, word := range words {
		if got := impl.StepWord(pc); got != word {
			t.Errorf("StepWord(%d) = %q", pc, got)
		}
	}
	for _, pc := range []int{math.MinInt, -2, -1, 22, 23, 256, math.MaxInt} {
		if got := impl.StepWord(pc); got != "" {
			t.Errorf("StepWord(%d) = %q", pc, got)
		}
	}
}

func TestTableStepRefuses(t *testing.T) {
	for i, x := range badTables(t) {
		for w := range impl.Workers {
			if next := impl.TableStep(x, w); !sameParts(next, x) {
				t.Errorf("the step of worker %d changes the invalid table %d to %+v", w, i, next)
			}
		}
	}
	for _, w := range []int{math.MinInt, -1, 3, math.MaxInt} {
		if next := impl.TableStep(someTable(t), w); !sameParts(next, someTable(t)) {
			t.Errorf("there is a worker %d: %+v", w, next)
		}
	}
}

func TestNothingToTransact(t *testing.T) {
	for w := range impl.Workers {
		empty := someTable(t)
		empty.Todo[w].List = nil
		turns(t, empty, w, impl.TJob{}, impl.TJob{}, nil)
		last := someTable(t)
		last.Serial = impl.MaxSerial
		turns(t, last, w, impl.TJob{}, impl.TJob{}, nil)
	}
}

func TestStartOfBatches(t *testing.T) {
	for _, b := range goodBatches() {
		for w := range impl.Workers {
			x := someTable(t)
			x.Todo[w].List = []impl.Batch{b, collect}
			x.Serial = impl.MaxSerial - 1
			job := impl.TJob{Busy: true, Batch: b, Serial: impl.MaxSerial, Sub: impl.Sub{Kind: impl.SbPin}}
			if b.Collect {
				job.Pc, job.Sub = impl.TpAdvance, impl.Sub{Kind: impl.SbAdvance}
			}
			turns(t, x, w, impl.TJob{}, job, func(x *impl.Table) {
				x.Serial++
				x.Todo[w].List = []impl.Batch{collect}
				x.Log = more(x.Log, impl.TEv{Kind: impl.TvCall, Who: w, Serial: impl.MaxSerial, Cmds: b.Cmds})
			})
		}
	}
}

func TestTellOfBatches(t *testing.T) {
	for _, b := range goodBatches() {
		for w := range impl.Workers {
			for _, code := range []int{impl.CdOk, impl.CdArgs, impl.CdStall, 99} {
				job := withPc(oddTJob(b, 0), impl.TpTell)
				job.Code, job.Res = code, []impl.Res{{Is: true, Val: 7}, {}}
				turns(t, someTable(t), w, job, impl.TJob{}, func(x *impl.Table) {
					e := impl.TEv{Kind: impl.TvTell, Who: w, Serial: 23, Code: code}
					if code == impl.CdOk {
						e.Res = job.Res
					}
					x.Log = more(x.Log, e)
				})
			}
		}
	}
}

func TestUnknownStepsOfBatches(t *testing.T) {
	for _, pc := range []int{math.MinInt, -1, 22, 23, math.MaxInt} {
		for w := range impl.Workers {
			job := oddTJob(fullBatch(), pc)
			turns(t, someTable(t), w, job, aborted(job, impl.CdArgs), nil)
		}
	}
}

func TestOperationsOfBatches(t *testing.T) {
	next := map[int]int{impl.TpPin: impl.TpNext, impl.TpAdvance: impl.TpCollect, impl.TpCollect: impl.TpTell}
	for pc, after := range next {
		for w := range impl.Workers {
			for _, sub := range []impl.Sub{
				impl.SubNew(impl.SbPin, 0), {Kind: impl.SbPin, Pc: 1, E: 5}, {Kind: impl.SbPin, Pc: 1, E: 6}, {Kind: impl.SbPin, Pc: 2, E: 5}, {Kind: impl.SbPin, Pc: 2, E: 4},
				impl.SubNew(impl.SbAdvance, 0), {Kind: impl.SbAdvance, Pc: 1, B: 1, E: 5}, {Kind: impl.SbAdvance, Pc: 1, E: 5}, {Kind: impl.SbAdvance, Pc: 2, E: 5},
				impl.SubNew(impl.SbCollect, 0), {Kind: impl.SbCollect, Pc: 1, E: 6, Out: 4}, {Kind: impl.SbCollect, Pc: 3, E: 6, H: 37}, {}, odd(impl.SbAlloc, 8, 4),
				{Out: 5, Code: 6, Done: true},
			} {
				job := oddTJob(fullBatch(), pc)
				job.Sub = sub
				x := someTable(t)
				to := job
				var b impl.Base
				b, to.Sub = impl.SubStep(x.Base, w, sub)
				if to.Sub.Done {
					to.Pc = after
					if pc == impl.TpAdvance {
						to.Sub = impl.Sub{Kind: impl.SbCollect}
					}
				}
				turns(t, x, w, job, to, func(x *impl.Table) { x.Base = b })
			}
		}
	}
}

func TestAllCommandsExecuted(t *testing.T) {
	for _, b := range []impl.Batch{fullBatch(), batch(get(4)), collect} {
		for w := range impl.Workers {
			job := oddTJob(b, impl.TpNext)
			job.At = len(b.Cmds)
			to := withPc(job, impl.TpAlloc)
			to.K, to.Sub = 0, impl.Sub{Kind: impl.SbAlloc, A: 16}
			turns(t, someTable(t), w, job, to, nil)
		}
	}
}

func TestPutAndDelAreRecorded(t *testing.T) {
	for _, c := range []impl.Cmd{put(5, 500), put(2, 0), put(7, 65535), del(5), del(2), del(7)} {
		for w := range impl.Workers {
			for at := range 3 {
				job := oddTJob(batch(get(9), get(9), get(9)), impl.TpNext)
				job.Batch.Cmds[at], job.At = c, at
				to := job
				to.Writes = impl.WritePut(job.Writes, impl.Write{Key: c.Key, Del: c.Kind == impl.CmDel, Val: c.Val})
				to.Res, to.At = more(job.Res, impl.Res{}), at+1
				turns(t, someTable(t), w, job, to, nil)
			}
		}
	}
}

func TestTooManyWrites(t *testing.T) {
	for _, c := range []impl.Cmd{put(0, 1), put(4, 1), put(99, 0), del(0), del(50)} {
		job := oddTJob(batch(c), impl.TpNext)
		job.Writes = sixWrites()
		turns(t, someTable(t), 0, job, aborted(job, impl.CdArgs), nil)
		job.Writes = sixWrites()[:5]
		to := job
		to.Writes = impl.WritePut(job.Writes, impl.Write{Key: c.Key, Del: c.Kind == impl.CmDel, Val: c.Val})
		to.Res, to.At = more(job.Res, impl.Res{}), 1
		turns(t, someTable(t), 0, job, to, nil)
	}
	for _, c := range []impl.Cmd{put(1, 1), del(98), put(2, 7)} {
		job := oddTJob(batch(c), impl.TpNext)
		job.Writes = sixWrites()
		to := job
		to.Writes = impl.WritePut(job.Writes, impl.Write{Key: c.Key, Del: c.Kind == impl.CmDel, Val: c.Val})
		to.Res, to.At = more(job.Res, impl.Res{}), 1
		turns(t, someTable(t), 0, job, to, nil)
	}
}

func TestCommandsReadTheirOwnWrites(t *testing.T) {
	for _, x := range []struct {
		c   impl.Cmd
		r   impl.Res
		own impl.Write
	}{
		{get(1), impl.Res{Is: true, Val: 11}, puts(1, 11)},
		{get(98), impl.Res{Is: true, Val: 65535}, puts(98, 65535)},
		{get(2), impl.Res{}, dels(2)},
		{get(50), impl.Res{}, impl.Write{Key: 50, Del: true, Val: 6}},
		{add(1, 4), impl.Res{Is: true, Val: 15}, puts(1, 15)},
		{add(98, 4), impl.Res{Is: true, Val: 3}, puts(98, 3)},
		{add(98, 1), impl.Res{Is: true}, puts(98, 0)},
		{add(2, 9), impl.Res{Is: true, Val: 9}, puts(2, 9)},
		{add(50, 9), impl.Res{Is: true, Val: 9}, puts(50, 9)},
	} {
		job := oddTJob(batch(get(3), x.c), impl.TpNext)
		job.At = 1
		job.Writes = impl.WritePut(sixWrites()[:5], puts(98, 65535))
		if x.c.Key == 50 {
			job.Writes[4] = impl.Write{Key: 50, Del: true, Val: 6}
		}
		to := job
		to.Writes = impl.WritePut(job.Writes, x.own)
		to.Res, to.At = more(job.Res, x.r), 2
		turns(t, someTable(t), 0, job, to, nil)
	}
}

func TestCommandsThatMustRead(t *testing.T) {
	for key := range 100 {
		for _, c := range []impl.Cmd{get(key), add(key, 7)} {
			job := oddTJob(batch(c), impl.TpNext)
			job.Writes = nil
			to := withPc(job, impl.TpHead)
			to.Bkt = key % 2
			turns(t, someTable(t), key%3, job, to, nil)
		}
	}
}

func TestHeadOfABucket(t *testing.T) {
	for w := range impl.Workers {
		for lock := range 4 {
			for _, b := range []impl.Bkt{{Head: 33, Ver: 5}, {Ver: 1000000}, {Head: 215}} {
				for at := range 2 {
					x := someTable(t)
					b.Lock = lock
					x.Bkts[at] = b
					job := oddTJob(batch(get(4)), impl.TpHead)
					job.Bkt = at
					if lock != 0 {
						turns(t, x, w, job, aborted(job, impl.CdClash), nil)
						continue
					}
					to := withPc(job, impl.TpWalk)
					to.Ver, to.H, to.Found, to.Node = b.Ver, b.Head, false, impl.Node{}
					if b.Head == 0 {
						to.Pc = impl.TpCheck
					}
					turns(t, x, w, job, to, nil)
				}
			}
		}
	}
}

func TestWalkReadsTheNode(t *testing.T) {
	for h, n := range map[int]impl.Node{
		33: {Key: 4, Val: 40, Next: 32}, 32: {Key: 2, Val: 20}, 36: {Key: 7, Val: 65535}, 40: {Key: 1, Val: 10, Next: 31},
		// In limbo, of another generation, free, not carved, and nothing.
		37: {Key: 9, Val: 90, Next: 36}, 64: {Key: 2, Val: 20}, 41: {}, 73: {}, 42: {}, 215: {}, 0: {},
	} {
		for w := range impl.Workers {
			job := oddTJob(batch(get(4)), impl.TpWalk)
			job.H = h
			to := withPc(job, impl.TpMark)
			to.Node = n
			turns(t, someTable(t), w, job, to, nil)
		}
	}
}

func TestMarkChecksThePin(t *testing.T) {
	for _, c := range []impl.Cmd{get(4), add(4, 1), put(4, 1), del(4)} {
		for _, n := range []impl.Node{{Key: 4, Val: 9, Next: 36}, {Key: 3, Val: 9, Next: 36}, {Key: 4}, {Key: 3}, {Key: 3, Next: 31}, {Key: -4, Next: -36}, {Next: 215}} {
			for w := range impl.Workers {
				job := oddTJob(batch(get(9), c), impl.TpMark)
				job.At, job.Node, job.Found = 1, n, n.Key != 4
				if w != 0 {
					turns(t, someTable(t), w, job, aborted(job, impl.CdStall), nil)
					job.At = 2
					turns(t, someTable(t), w, job, aborted(job, impl.CdStall), nil)
					continue
				}
				to := withPc(job, impl.TpCheck)
				to.Found, to.H = n.Key == 4, n.Next
				if !impl.HandleOk(n.Next) {
					to.H = 0
				}
				if !to.Found && to.H != 0 {
					to.Pc = impl.TpWalk
				}
				turns(t, someTable(t), w, job, to, nil)
				job.At = 2
				turns(t, someTable(t), w, job, aborted(job, impl.CdArgs), nil)
			}
		}
	}
}

func TestCheckOfTheBucket(t *testing.T) {
	for w := range impl.Workers {
		for lock := range 4 {
			for ver := 4; ver <= 6; ver++ {
				x := someTable(t)
				x.Bkts[0].Lock = lock
				job := oddTJob(batch(get(4)), impl.TpCheck)
				job.Bkt, job.Ver, job.Node.Val, job.Reads = 0, ver, 17, nil
				if lock != 0 || ver != 5 {
					turns(t, x, w, job, aborted(job, impl.CdClash), nil)
					continue
				}
				to := withPc(job, impl.TpNext)
				to.At, to.Reads, to.Res = 1, []impl.Seen{{Bkt: 0, Ver: 5}}, more(job.Res, impl.Res{Is: true, Val: 17})
				turns(t, x, w, job, to, nil)
			}
		}
	}
}

func TestCheckOfTheReads(t *testing.T) {
	for _, r := range []struct {
		reads []impl.Seen
		after []impl.Seen
	}{
		{nil, []impl.Seen{{Bkt: 0, Ver: 5}}},
		{[]impl.Seen{{Bkt: 1, Ver: 6}}, []impl.Seen{{Bkt: 1, Ver: 6}, {Bkt: 0, Ver: 5}}},
		{[]impl.Seen{{Bkt: 0, Ver: 5}}, []impl.Seen{{Bkt: 0, Ver: 5}}},
		{[]impl.Seen{{Bkt: 0, Ver: 5}, {Bkt: 0, Ver: 4}}, []impl.Seen{{Bkt: 0, Ver: 5}, {Bkt: 0, Ver: 4}}},
		{[]impl.Seen{{Bkt: 1, Ver: 5}, {Bkt: 0, Ver: 4}}, nil},
		{[]impl.Seen{{Bkt: 0, Ver: 4}, {Bkt: 0, Ver: 5}}, nil},
	} {
		job := oddTJob(batch(get(9), get(4)), impl.TpCheck)
		job.At, job.Bkt, job.Ver, job.Node.Val, job.Reads = 1, 0, 5, 17, r.reads
		if r.after == nil {
			turns(t, someTable(t), 1, job, aborted(job, impl.CdClash), nil)
			job.At = 2
			turns(t, someTable(t), 1, job, aborted(job, impl.CdClash), nil)
			continue
		}
		to := withPc(job, impl.TpNext)
		to.At, to.Reads, to.Res = 2, r.after, more(job.Res, impl.Res{Is: true, Val: 17})
		turns(t, someTable(t), 1, job, to, nil)
		// The read is recorded before the missing command is noticed.
		job.At = 2
		to = aborted(job, impl.CdArgs)
		to.Reads = r.after
		turns(t, someTable(t), 1, job, to, nil)
	}
}

func TestAnswers(t *testing.T) {
	for _, x := range []struct {
		c     impl.Cmd
		found bool
		val   int
		r     impl.Res
		own   []impl.Write
	}{
		{get(4), true, 17, impl.Res{Is: true, Val: 17}, nil},
		{get(4), true, 0, impl.Res{Is: true}, nil},
		{get(4), true, 1 << 31, impl.Res{Is: true, Val: 1 << 31}, nil},
		{get(4), false, 17, impl.Res{}, nil},
		{put(4, 3), true, 17, impl.Res{Is: true, Val: 17}, nil},
		{del(4), false, 17, impl.Res{}, nil},
		{add(4, 3), true, 17, impl.Res{Is: true, Val: 20}, []impl.Write{puts(4, 20)}},
		{add(4, 3), false, 17, impl.Res{Is: true, Val: 3}, []impl.Write{puts(4, 3)}},
		{add(4, 3), true, 65534, impl.Res{Is: true, Val: 1}, []impl.Write{puts(4, 1)}},
		{add(4, 1), true, 65535, impl.Res{Is: true}, []impl.Write{puts(4, 0)}},
		{add(4, 65535), true, 65535, impl.Res{Is: true, Val: 65534}, []impl.Write{puts(4, 65534)}},
		{add(4, 1), true, 1<<32 - 1, impl.Res{Is: true}, []impl.Write{puts(4, 0)}},
		{add(4, 1), true, -3, impl.Res{Is: true, Val: 65534}, []impl.Write{puts(4, 65534)}},
		{add(4, 65535), true, math.MaxInt, impl.Res{Is: true, Val: 65534}, []impl.Write{puts(4, 65534)}},
	} {
		for _, writes := range [][]impl.Write{nil, {puts(4, 9)}, {puts(3, 9), dels(5)}, sixWrites()[1:], impl.WritePut(sixWrites()[1:], dels(4))} {
			job := oddTJob(batch(get(9), x.c, get(9)), impl.TpCheck)
			job.At, job.Bkt, job.Ver, job.Node.Val, job.Found, job.Writes = 1, 0, 5, x.val, x.found, writes
			to := withPc(job, impl.TpNext)
			to.At, to.Res = 2, more(job.Res, x.r)
			for _, own := range x.own {
				to.Writes = impl.WritePut(writes, own)
			}
			turns(t, someTable(t), 2, job, to, nil)
		}
		job := oddTJob(batch(x.c), impl.TpCheck)
		job.Bkt, job.Ver, job.Node.Val, job.Found, job.Writes, job.Reads = 0, 5, x.val, x.found, sixWrites(), nil
		if x.own != nil {
			to := aborted(job, impl.CdArgs)
			to.Reads = []impl.Seen{{Bkt: 0, Ver: 5}}
			turns(t, someTable(t), 2, job, to, nil)
		}
	}
}

func TestNodesAreAllocated(t *testing.T) {
	for w := range impl.Workers {
		for _, x := range []struct {
			writes []impl.Write
			k      int
		}{{nil, 0}, {nil, 50}, {[]impl.Write{dels(1), dels(2)}, 0}, {[]impl.Write{puts(1, 1), dels(2)}, 1}, {sixWrites(), 4}, {sixWrites(), 100}} {
			job := oddTJob(fullBatch(), impl.TpAlloc)
			job.Writes, job.K = x.writes, x.k
			to := withPc(job, impl.TpLock)
			to.K = 0
			turns(t, someTable(t), w, job, to, nil)
		}
		for k := range 4 {
			for _, sub := range []impl.Sub{
				impl.SubNew(impl.SbAlloc, 16), {Kind: impl.SbAlloc, A: 16, Pc: 1}, {Kind: impl.SbAlloc, A: 16, Pc: 2}, {Kind: impl.SbAlloc, A: 16, Pc: 3},
				impl.SubNew(impl.SbAlloc, 41), {Kind: impl.SbAlloc, A: 16, Pc: 4}, {Out: 40, Done: true}, {Out: 40, Code: 9, Done: true},
			} {
				job := oddTJob(fullBatch(), impl.TpAlloc)
				job.Writes, job.K, job.Sub = sixWrites(), k, sub
				x := someTable(t)
				to := job
				var b impl.Base
				b, to.Sub = impl.SubStep(x.Base, w, sub)
				switch {
				case to.Sub.Done && to.Sub.Code != impl.CdOk:
					to = aborted(to, to.Sub.Code)
				case to.Sub.Done:
					to.New, to.K, to.Sub = more(job.New, to.Sub.Out), k+1, impl.Sub{Kind: impl.SbAlloc, A: 16}
				}
				turns(t, x, w, job, to, func(x *impl.Table) { x.Base = b })
			}
		}
	}
}

// The transaction also aborts with the operation's code if that is CdOk.
func TestNodesThatCannotBeTaken(t *testing.T) {
	for _, code := range []int{impl.CdOk, impl.CdFull} {
		for _, out := range []int{math.MinInt, -32, 0, 1, 31, 56, 224, math.MaxInt} {
			job := oddTJob(fullBatch(), impl.TpAlloc)
			job.K, job.Sub = 0, impl.Sub{Out: out, Code: code, Done: true}
			turns(t, someTable(t), 0, job, aborted(job, code), nil)
		}
		job := oddTJob(fullBatch(), impl.TpAlloc)
		job.K, job.Sub, job.New = 0, impl.Sub{Out: 40, Code: code, Done: true}, []int{32, 33, 36, 37, 40, 40}
		turns(t, someTable(t), 0, job, aborted(job, code), nil)
		job.New = job.New[:5]
		to := aborted(job, code)
		if code == impl.CdOk {
			to = job
			to.K, to.New, to.Sub = 1, []int{32, 33, 36, 37, 40, 40}, impl.Sub{Kind: impl.SbAlloc, A: 16}
		}
		turns(t, someTable(t), 0, job, to, nil)
	}
}

// pointed returns the job after the serialization point.
func pointed(job impl.TJob) impl.TJob {
	job.K, job.Pc = 0, impl.TpValid
	return job
}

func notePoint(w int) func(x *impl.Table) {
	return func(x *impl.Table) {
		x.Log = more(x.Log, impl.TEv{Kind: impl.TvPoint, Who: w, Serial: 23})
	}
}

func TestSerializationPointWithoutLocks(t *testing.T) {
	for w := range impl.Workers {
		for _, x := range []struct {
			writes []impl.Write
			k      int
		}{{nil, 0}, {nil, 7}, {[]impl.Write{dels(1)}, 1}, {[]impl.Write{puts(1, 1), puts(2, 2)}, 2}, {sixWrites(), 100}} {
			job := oddTJob(fullBatch(), impl.TpLock)
			job.Writes, job.K = x.writes, x.k
			turns(t, someTable(t), w, job, pointed(job), notePoint(w))
		}
	}
}

func TestLocks(t *testing.T) {
	one, other, both := []impl.Write{puts(1, 1)}, []impl.Write{dels(0), puts(2, 1)}, sixWrites()
	for w := range impl.Workers {
		for _, x := range []struct {
			writes []impl.Write
			k      int
			b      int
			last   bool
		}{{one, 0, 1, true}, {other, 0, 0, true}, {both, 0, 0, false}, {both, 1, 1, true}} {
			for _, held := range [][]int{nil, {0}, {1}, {1, 0}} {
				tab := someTable(t)
				tab.Bkts[1].Lock = 0
				job := oddTJob(fullBatch(), impl.TpLock)
				job.Writes, job.K, job.Held = x.writes, x.k, held
				job.Reads = []impl.Seen{{Bkt: 1, Ver: 6}, {Bkt: 0, Ver: 5}, {Bkt: 1, Ver: 6}}
				to := job
				to.K++
				if !slices.Contains(held, x.b) {
					to.Held = more(held, x.b)
				}
				if x.last {
					to = pointed(to)
				}
				turns(t, tab, w, job, to, func(tab *impl.Table) {
					tab.Bkts[x.b].Lock = w + 1
					if x.last {
						notePoint(w)(tab)
					}
				})
			}
		}
	}
}

func TestLocksThatFail(t *testing.T) {
	for w := range impl.Workers {
		for b := range 2 {
			job := oddTJob(fullBatch(), impl.TpLock)
			job.Writes, job.K, job.Reads = sixWrites(), b, nil
			// Also one's own lock is one.
			for lock := 1; lock <= 3; lock++ {
				x := someTable(t)
				x.Bkts[b] = impl.Bkt{Ver: impl.MaxVer, Lock: lock}
				turns(t, x, w, job, aborted(job, impl.CdClash), nil)
			}
			x := someTable(t)
			x.Bkts[b] = impl.Bkt{Ver: impl.MaxVer}
			turns(t, x, w, job, aborted(job, impl.CdFull), nil)
			for _, reads := range [][]impl.Seen{{{Bkt: b, Ver: 5}}, {{Bkt: b, Ver: impl.MaxVer}, {Bkt: b, Ver: 0}}, {{Bkt: 1 - b, Ver: 8}, {Bkt: b, Ver: 8}}} {
				job.Reads = reads
				turns(t, x, w, job, aborted(job, impl.CdClash), nil)
			}
			// What was read of the other bucket does not matter yet.
			x.Bkts[b].Ver--
			job.Reads = []impl.Seen{{Bkt: 1 - b, Ver: 8}, {Bkt: b, Ver: impl.MaxVer - 1}}
			job.Held = nil
			to := job
			to.K, to.Held = b+1, []int{b}
			if b == 1 {
				to = pointed(to)
			}
			turns(t, x, w, job, to, func(x *impl.Table) {
				x.Bkts[b].Lock = w + 1
				if b == 1 {
					notePoint(w)(x)
				}
			})
		}
	}
}

func TestValidation(t *testing.T) {
	for w := range impl.Workers {
		for lock := range 4 {
			for ver := 4; ver <= 6; ver++ {
				x := someTable(t)
				x.Bkts[0].Lock = lock
				job := oddTJob(fullBatch(), impl.TpValid)
				job.K, job.Reads = 1, []impl.Seen{{Bkt: 1, Ver: 0}, {Bkt: 0, Ver: ver}, {Bkt: 1, Ver: 0}}
				to := job
				to.K = 2
				if ver != 5 || lock != 0 && lock != w+1 {
					to = aborted(job, impl.CdClash)
				}
				turns(t, x, w, job, to, nil)
			}
		}
		for _, k := range []int{0, 1, 100} {
			job := oddTJob(fullBatch(), impl.TpValid)
			job.K, job.Reads = k, job.Reads[:min(k, 1)]
			to := withPc(job, impl.TpFind)
			to.K = 0
			turns(t, someTable(t), w, job, to, nil)
		}
	}
}

// A job with more reads than any transaction counts beyond the limit; then the table is invalid, and nothing happens any more.
func TestReadsBeyondTheLimit(t *testing.T) {
	x := someTable(t)
	x.Jobs[0] = oddTJob(fullBatch(), impl.TpValid)
	x.Jobs[0].K, x.Jobs[0].Reads = 99, slices.Repeat([]impl.Seen{{Bkt: 0, Ver: 5}}, 200)
	y := impl.TableStep(x, 0)
	if y.Jobs[0].K != 100 || !impl.TableOk(y) {
		t.Fatal("K is", y.Jobs[0].K)
	}
	z := impl.TableStep(y, 0)
	if z.Jobs[0].K != 101 || impl.TableOk(z) {
		t.Fatal("K is", z.Jobs[0].K)
	}
	for w := range impl.Workers {
		if !sameParts(impl.TableStep(z, w), z) {
			t.Errorf("a step of worker %d changes the table", w)
		}
	}
}

func TestAllWritesDone(t *testing.T) {
	for pc := impl.TpFind; pc <= impl.TpLink; pc++ {
		for w := range impl.Workers {
			for _, k := range []int{2, 3, 100} {
				job := oddTJob(fullBatch(), pc)
				job.K = k
				turns(t, someTable(t), w, job, withPc(job, impl.TpUnlock), nil)
			}
			job := oddTJob(fullBatch(), pc)
			job.K, job.Writes = 0, nil
			turns(t, someTable(t), w, job, withPc(job, impl.TpUnlock), nil)
		}
	}
}

// placed returns the job after its write has found no more node with its key.
func placed(job impl.TJob) impl.TJob {
	if job.Writes[job.K].Del {
		job.K++
		job.Pc = impl.TpFind
	} else {
		job.Pc = impl.TpFill
	}
	return job
}

func TestFind(t *testing.T) {
	for w := range impl.Workers {
		for k, own := range sixWrites() {
			job := oddTJob(fullBatch(), impl.TpFind)
			job.Writes, job.K = sixWrites(), k
			for _, head := range []int{0, 33, 36, 215} {
				x := someTable(t)
				x.Bkts[own.Key%2].Head = head
				to := withPc(job, impl.TpStep)
				to.Prev, to.H = 0, head
				if head == 0 {
					to = placed(to)
				}
				turns(t, x, w, job, to, nil)
			}
		}
	}
}

func TestStepAlongTheChain(t *testing.T) {
	for w := range impl.Workers {
		for _, own := range []impl.Write{puts(4, 1), dels(4), puts(2, 1), dels(2), puts(1, 1), dels(9), puts(0, 7), dels(0)} {
			for h, n := range map[int]impl.Node{33: {Key: 4, Val: 40, Next: 32}, 32: {Key: 2, Val: 20}, 40: {Key: 1, Val: 10, Next: 31}, 37: {Key: 9, Val: 90, Next: 36}, 215: {}, 0: {}} {
				job := oddTJob(fullBatch(), impl.TpStep)
				job.Writes, job.K, job.H = []impl.Write{own}, 0, h
				to := job
				to.Node = n
				switch {
				case n.Key == own.Key:
					to.Pc = impl.TpCut
				case n.Next == 0 || n.Next == 31:
					to = placed(to)
				default:
					to.Prev, to.H = h, n.Next
				}
				turns(t, someTable(t), w, job, to, nil)
			}
		}
	}
}

func TestCut(t *testing.T) {
	for w := range impl.Workers {
		for _, own := range []impl.Write{puts(4, 1), dels(4), puts(9, 1), dels(9)} {
			for _, next := range []int{0, 32, 36, 215, 31, -4} {
				for _, prev := range []int{0, 33, 40, 41, 215} {
					job := oddTJob(fullBatch(), impl.TpCut)
					job.Writes, job.K, job.Prev, job.Node.Next = []impl.Write{own}, 0, prev, next
					after := next
					if !impl.HandleOk(next) {
						after = 0
					}
					to := placed(job)
					to.Olds = []int{33, 37}
					turns(t, someTable(t), w, job, to, func(x *impl.Table) {
						if prev == 0 {
							x.Bkts[own.Key%2].Head = after
						} else {
							x.Base.Mem, _ = impl.NextTo(x.Base.Mem, prev, after)
						}
					})
				}
			}
		}
	}
	job := oddTJob(fullBatch(), impl.TpCut)
	job.K, job.Prev, job.H = 0, 215, 0
	turns(t, someTable(t), 0, job, placed(job), nil)
	job.H, job.Olds = 33, []int{32, 33, 36, 37, 40, 40}
	turns(t, someTable(t), 0, job, placed(job), nil)
	job.Olds = job.Olds[:5]
	to := placed(job)
	to.Olds = []int{32, 33, 36, 37, 40, 33}
	turns(t, someTable(t), 0, job, to, nil)
}

func TestFillAndLink(t *testing.T) {
	for w := range impl.Workers {
		for k, own := range sixWrites() {
			at := []int{0, 1, 1, 2, 3, 3}[k]
			b := own.Key % 2
			for _, news := range [][]int{nil, {40}, {41, 40}, {36, 41, 40}, {37, 36, 41, 40}} {
				job := oddTJob(fullBatch(), impl.TpFill)
				job.Writes, job.K, job.New = sixWrites(), k, news
				if at >= len(news) {
					turns(t, someTable(t), w, job, aborted(job, impl.CdArgs), nil)
					turns(t, someTable(t), w, withPc(job, impl.TpLink), aborted(job, impl.CdArgs), nil)
					continue
				}
				turns(t, someTable(t), w, job, withPc(job, impl.TpLink), func(x *impl.Table) {
					x.Base.Mem, _ = impl.NodePut(x.Base.Mem, news[at], impl.Node{Key: own.Key, Val: own.Val, Next: []int{33, 36}[b]})
				})
				to := withPc(job, impl.TpFind)
				to.K++
				turns(t, someTable(t), w, withPc(job, impl.TpLink), to, func(x *impl.Table) { x.Bkts[b].Head = news[at] })
			}
		}
	}
}

func TestUnlockAndUndo(t *testing.T) {
	for w := range impl.Workers {
		for _, pc := range []int{impl.TpUnlock, impl.TpUndo} {
			for _, held := range [][]int{{0}, {1}, {0, 1}, {1, 0}} {
				for _, ver := range []int{0, 5, 999999, 1000000} {
					job := oddTJob(fullBatch(), pc)
					job.Held = held
					to := job
					to.Held = held[1:]
					x := someTable(t)
					x.Bkts[held[0]] = impl.Bkt{Head: 33, Ver: ver, Lock: w + 1}
					turns(t, x, w, job, to, func(x *impl.Table) {
						x.Bkts[held[0]].Lock = 0
						if pc == impl.TpUnlock {
							x.Bkts[held[0]].Ver = min(ver+1, 1000000)
						}
					})
				}
			}
		}
		job := oddTJob(fullBatch(), impl.TpUndo)
		job.Held = nil
		turns(t, someTable(t), w, job, withPc(job, impl.TpDrop), nil)
		for _, olds := range [][]int{nil, {33}, {36, 33}} {
			job := oddTJob(fullBatch(), impl.TpUnlock)
			job.Held, job.Olds = nil, olds
			to := withPc(job, impl.TpRetire)
			to.K = 0
			// Without old nodes Sub stays as it is.
			if len(olds) > 0 {
				to.Sub = impl.Sub{Kind: impl.SbRetire, A: olds[0]}
			}
			turns(t, someTable(t), w, job, to, nil)
		}
	}
}

func TestOldNodesAreRetired(t *testing.T) {
	for w := range impl.Workers {
		for _, k := range []int{2, 3, 100} {
			job := oddTJob(fullBatch(), impl.TpRetire)
			job.K, job.Olds = k, []int{33, 36}
			turns(t, someTable(t), w, job, withPc(job, impl.TpUnpin), nil)
		}
		job := oddTJob(fullBatch(), impl.TpRetire)
		job.K, job.Olds = 0, nil
		turns(t, someTable(t), w, job, withPc(job, impl.TpUnpin), nil)
		for k := range 2 {
			for _, sub := range []impl.Sub{
				impl.SubNew(impl.SbRetire, 33), {Kind: impl.SbRetire, A: 33, Pc: 1, E: 5}, {Kind: impl.SbRetire, A: 37, Pc: 1, E: 5}, {Kind: impl.SbRetire, A: 33, Pc: 1, E: 6}, {Done: true, Code: 9},
			} {
				job := oddTJob(fullBatch(), impl.TpRetire)
				job.K, job.Sub, job.Olds = k, sub, []int{33, 36}
				x := someTable(t)
				to := job
				var b impl.Base
				b, to.Sub = impl.SubStep(x.Base, w, sub)
				if to.Sub.Done {
					to.K = k + 1
					if k == 0 {
						to.Sub = impl.Sub{Kind: impl.SbRetire, A: 36}
					}
				}
				turns(t, x, w, job, to, func(x *impl.Table) { x.Base = b })
			}
		}
	}
}

func TestNewNodesAreDropped(t *testing.T) {
	for w := range impl.Workers {
		// In use, in limbo, free, of another generation, not carved.
		for _, h := range []int{40, 37, 41, 72, 215} {
			job := oddTJob(fullBatch(), impl.TpDrop)
			job.New = []int{h, 36, h}
			to := job
			to.New = []int{36, h}
			turns(t, someTable(t), w, job, to, func(x *impl.Table) {
				if h != 37 {
					x.Base.Mem, _ = impl.FreeNow(x.Base.Mem, w, h)
				}
			})
		}
		job := oddTJob(fullBatch(), impl.TpDrop)
		job.New = nil
		turns(t, someTable(t), w, job, withPc(job, impl.TpUnpin), nil)
		job = oddTJob(fullBatch(), impl.TpUnpin)
		turns(t, someTable(t), w, job, withPc(job, impl.TpTell), func(x *impl.Table) { x.Base.Clock.Pins[w] = impl.Pin{} })
	}
}

// goOn performs steps of the worker until its job has this Pc.
func goOn(t *testing.T, x impl.Table, w int, pc int) impl.Table {
	t.Helper()
	for range 200 {
		x = impl.TableStep(x, w)
		if x.Jobs[w].Busy && x.Jobs[w].Pc == pc {
			return x
		}
	}
	t.Fatalf("worker %d does not come to %s: %+v", w, impl.StepWord(pc), x.Jobs[w])
	return x
}

// done performs steps of the worker until its batch is told, and returns the event.
func done(t *testing.T, x impl.Table, w int) (impl.Table, impl.TEv) {
	t.Helper()
	x = impl.TableStep(goOn(t, x, w, impl.TpTell), w)
	e := x.Log[len(x.Log)-1]
	if e.Kind != impl.TvTell || e.Who != w || x.Jobs[w].Busy {
		t.Fatalf("worker %d tells %+v", w, e)
	}
	return x, e
}

// A writer locks the bucket between the reader's look at its head and the check of its version: the reader aborts while the
// lock is held and after the version has changed, but not if the writer has undone its lock.
func TestLockBetweenTwoChecks(t *testing.T) {
	start := impl.TableNew(batches([]impl.Batch{batch(put(4, 1)), batch(get(7), put(4, 2))}, []impl.Batch{batch(get(4))}, []impl.Batch{batch(put(7, 9))}))
	start, _ = done(t, start, 0)
	for _, reader := range []int{impl.TpHead, impl.TpWalk, impl.TpMark, impl.TpCheck} {
		for _, writer := range []int{impl.TpLock, impl.TpValid, impl.TpFill, impl.TpUnlock, impl.TpRetire, impl.TpTell} {
			x := goOn(t, goOn(t, start, 1, reader), 0, writer)
			_, e := done(t, x, 1)
			want := impl.CdClash
			val := 0
			switch {
			case writer == impl.TpLock:
				want, val = impl.CdOk, 1
			case reader == impl.TpHead && (writer == impl.TpRetire || writer == impl.TpTell):
				want, val = impl.CdOk, 2
			}
			if e.Code != want || want == impl.CdOk && e.Res[0].Val != val {
				t.Errorf("reader at %s, writer at %s: %+v", impl.StepWord(reader), impl.StepWord(writer), e)
			}
		}
		// Worker 2 changes what worker 0 has read before it locks, so worker 0 undoes its lock.
		x := goOn(t, goOn(t, start, 1, reader), 0, impl.TpLock)
		x, _ = done(t, x, 2)
		x = goOn(t, x, 0, impl.TpUndo)
		held := x.Bkts[0]
		x, f := done(t, x, 0)
		_, e := done(t, x, 1)
		if held.Lock != 1 || f.Code != impl.CdClash || e.Code != impl.CdOk || e.Res[0].Val != 1 {
			t.Errorf("reader at %s: the lock is %+v, the writer tells %+v, the reader %+v", impl.StepWord(reader), held, f, e)
		}
	}
}

// A lock between the check of a read and its validation: the reader's serialization point is not valid then.
func TestLockBetweenCheckAndValidation(t *testing.T) {
	start := impl.TableNew(batches([]impl.Batch{batch(put(4, 1)), batch(put(4, 2))}, []impl.Batch{batch(get(4), put(7, 3))}, nil))
	start, _ = done(t, start, 0)
	for _, reader := range []int{impl.TpNext, impl.TpAlloc, impl.TpLock, impl.TpValid} {
		x := goOn(t, start, 1, impl.TpCheck)
		x = goOn(t, x, 1, reader)
		for _, writer := range []int{impl.TpLock, impl.TpValid, impl.TpFind, impl.TpUnlock, impl.TpTell} {
			y := goOn(t, x, 0, writer)
			y, e := done(t, y, 1)
			if want := map[bool]int{true: impl.CdOk, false: impl.CdClash}[writer == impl.TpLock]; e.Code != want {
				t.Errorf("reader at %s, writer at %s: %+v", impl.StepWord(reader), impl.StepWord(writer), e)
			}
			if e.Code == impl.CdClash && y.Bkts[1] != (impl.Bkt{}) {
				t.Errorf("the bucket of the aborted batch is %+v", y.Bkts[1])
			}
		}
	}
}

// A batch that writes a key which has a node replaces the node and retires the old one.
func TestNodesAreReplaced(t *testing.T) {
	x := impl.TableNew(batches([]impl.Batch{batch(put(2, 1), put(4, 2), put(6, 3)), batch(put(4, 9), del(2), add(6, 5))}, nil, nil))
	x, _ = done(t, x, 0)
	if got := impl.PairsOf(x.Base.Mem, x.Bkts[0].Head); !slices.Equal(got, pairsOf(6, 3, 4, 2, 2, 1)) || x.Bkts[0].Ver != 1 || x.Bkts[1] != (impl.Bkt{}) {
		t.Fatal("the chain is", got, x.Bkts)
	}
	chain, _ := impl.ChainOf(x.Base.Mem, x.Bkts[0].Head)
	x, e := done(t, x, 0)
	if got := impl.PairsOf(x.Base.Mem, x.Bkts[0].Head); !slices.Equal(got, pairsOf(6, 8, 4, 9)) || x.Bkts[0].Ver != 2 {
		t.Fatal("the chain is", got, x.Bkts)
	}
	if e.Code != impl.CdOk || !slices.Equal(e.Res, []impl.Res{{}, {}, {Is: true, Val: 8}}) {
		t.Error("the batch tells", e)
	}
	// In the order of the keys.
	want := []impl.LRow{{Handle: chain[2]}, {Handle: chain[1]}, {Handle: chain[0]}}
	if !slices.Equal(x.Base.Limbo[0].Rows, want) {
		t.Error("in limbo are", x.Base.Limbo[0].Rows)
	}
}

// batchesFrom returns a workload that depends on x alone.
func batchesFrom(x int) []impl.TQueue {
	todo := batches(nil, nil, nil)
	for i, y := range spread(30+x%7, 1<<40)[x%7:] {
		y ^= x * 2654435761 % (1 << 38)
		b := batch(cmdsFrom(31*x+i, 1+y/5%4)...)
		if y/64%5 == 0 {
			b = collect
		}
		if w := y / 700 % 3; len(todo[w].List) < 8 && i < 30 {
			todo[w].List = append(todo[w].List, b)
		}
	}
	return todo
}

// checkStep checks promise 25 for the step of worker w from x to next.
func checkStep(t *testing.T, x impl.Table, next impl.Table, w int) {
	t.Helper()
	for other := range impl.Workers {
		if other != w && (!sameParts(next.Jobs[other], x.Jobs[other]) || !sameParts(next.Todo[other], x.Todo[other]) ||
			next.Base.Haz[other] != x.Base.Haz[other] || !sameParts(next.Base.Limbo[other], x.Base.Limbo[other])) {
			t.Fatalf("the step of %+v changes what belongs to worker %d", x.Jobs[w], other)
		}
	}
	for b := range impl.Bkts {
		if next.Bkts[b].Ver < x.Bkts[b].Ver {
			t.Fatalf("the step of %+v decreases a version", x.Jobs[w])
		}
	}
	if len(next.Log) < len(x.Log) || len(next.Log) > len(x.Log)+1 || !sameParts(next.Log[:len(x.Log)], x.Log) || next.Serial < x.Serial || next.Serial > x.Serial+1 {
		t.Fatalf("the step of %+v changes the log from %v to %v", x.Jobs[w], x.Log, next.Log)
	}
}

// TestStepsOfTransactions checks promise 25 in states of schedules.
func TestStepsOfTransactions(t *testing.T) {
	codes := map[int]int{}
	for x := range 25 {
		tab := impl.TableNew(batchesFrom(x))
		for step, y := range spread(900+x, 1<<40)[x:] {
			w := y % 3
			next := impl.TableStep(tab, w)
			if !impl.TableOk(next) {
				t.Fatalf("schedule %d, step %d of %+v: the table is invalid", x, step, tab.Jobs[w])
			}
			if !tab.Jobs[w].Busy && len(tab.Todo[w].List) == 0 && !impl.SameTable(next, tab) {
				t.Fatalf("schedule %d, step %d: a worker without work changes the table", x, step)
			}
			checkStep(t, tab, next, w)
			for b := range impl.Bkts {
				if lock := tab.Bkts[b].Lock; lock != 0 && lock != w+1 && next.Bkts[b] != tab.Bkts[b] {
					t.Fatalf("schedule %d, step %d of %+v changes the bucket %+v of another worker", x, step, tab.Jobs[w], tab.Bkts[b])
				}
			}
			tab = next
		}
		for _, e := range tab.Log {
			if e.Kind == impl.TvTell {
				codes[e.Code]++
			}
		}
	}
	if codes[impl.CdOk] < 100 || codes[impl.CdClash] < 10 {
		t.Error("the codes of the schedules are", codes)
	}
}

// TestStepsOfOddTransactions performs steps of jobs that no schedule has. They change no other job and decrease no version;
// only K can make the table invalid.
func TestStepsOfOddTransactions(t *testing.T) {
	handles := []int{0, 33, 32, 36, 37, 40, 41, 72, 64, 215}
	for x, y := range spread(4000, 1<<50) {
		tab := someTable(t)
		job := func(z int) impl.TJob {
			list := func(z int) []int {
				var l []int
				for i := range z % 7 {
					l = append(l, handles[1+(z/7+i*z/63)%9])
				}
				return l
			}
			b := batch(cmdsFrom(z%1000, 1+z%6)...)
			sub := impl.Sub{Kind: z / 11 % 7, A: handles[z/77%10], Pc: z / 693 % 5, E: z / 7 % 7, B: z/17%5 - 1, H: handles[z/19%10], Out: handles[z/23%10], Done: z/31%5 == 0}
			return impl.TJob{
				Busy: true, Batch: b, Serial: 5, Pc: z/37%24 - 1, At: z / 41 % (len(b.Cmds) + 1), K: []int{0, 1, 2, 3, 5, 100}[z/43%6], Bkt: z / 47 % 2, Ver: 5 + z/53%2,
				H: handles[z/59%10], Prev: handles[z/61%10], Node: impl.Node{Key: z/67%9 - 1, Val: z/71%70000 - 10, Next: handles[z/73%10] + z/79%2}, Found: z/83%2 == 0,
				Code: z / 89 % 9, Sub: sub, Reads: []impl.Seen{{Bkt: z / 97 % 2, Ver: 5}, {Bkt: z / 101 % 2, Ver: 6}}[:z/103%3], Writes: sixWrites()[:z/107%7],
				New: list(z / 109), Held: []int{z / 113 % 2, 1 - z/113%2}[:z/127%3], Olds: list(z / 131),
			}
		}
		for w := range tab.Jobs {
			tab.Jobs[w] = job(y / (w + 1))
		}
		for _, w := range []int{y % 3, y / 3 % 3, y / 9 % 3} {
			next := impl.TableStep(tab, w)
			if !impl.TableOk(next) && next.Jobs[w].K != 101 {
				t.Fatalf("table %d: the step of %+v makes it invalid", x, tab.Jobs[w])
			}
			checkStep(t, tab, next, w)
			tab = next
		}
	}
}

func TestTableStepsArePure(t *testing.T) {
	tables := everyNth(badTables(t), 9)
	x := impl.TableNew(batchesFrom(3))
	for i, y := range spread(400, 1<<40) {
		x = impl.TableStep(x, y%3)
		if i%9 == 0 {
			tables = append(tables, copyOfTable(x))
		}
	}
	for pc := range 23 {
		for _, b := range []impl.Batch{fullBatch(), collect} {
			busy := someTable(t)
			busy.Jobs[pc%3] = oddTJob(b, pc)
			busy.Jobs[pc%3].K = pc % 2
			tables = append(tables, busy)
		}
	}
	pureOverAll(t, impl.TableStep, pool(append(tables, someTable(t))...), pool(-1, 0, 1, 2, 3))
}
