package tests

import (
	"slices"
	"testing"

	"loop.example/g01538/impl"
)

func linkedWant(x impl.Table) []int {
	set := map[int]bool{}
	for _, b := range x.Bkts {
		chain, ok := impl.ChainOf(x.Base.Mem, b.Head)
		if !ok || !impl.TableOk(x) {
			return nil
		}
		for _, h := range chain {
			set[h] = true
		}
	}
	return sortedKeys(set)
}

func pendingWant(x impl.Table) []int {
	set := map[int]bool{}
	if !impl.TableOk(x) {
		return nil
	}
	for _, job := range x.Jobs {
		if !job.Busy {
			continue
		}
		words := map[string]bool{impl.StepWord(job.Pc): true}
		for i, h := range job.New {
			if words["alloc"] || words["lock"] || words["valid"] || words["undo"] || words["drop"] {
				set[h] = true
			}
			if (words["find"] || words["step"] || words["cut"] || words["fill"] || words["link"]) && i >= impl.Puts(job.Writes, job.K) {
				set[h] = true
			}
		}
		for i, h := range job.Olds {
			if words["find"] || words["step"] || words["cut"] || words["fill"] || words["link"] || words["unlock"] || words["retire"] && i >= job.K {
				set[h] = true
			}
		}
	}
	return sortedKeys(set)
}

func tableGuardedWant(x impl.Table) []int {
	set := map[int]bool{}
	if !impl.TableOk(x) {
		return nil
	}
	for w, job := range x.Jobs {
		if _, on := impl.PinnedAt(x.Base.Clock, w); on && job.Busy && job.H != 0 && (job.Pc == 3 || job.Pc == 4) {
			set[job.H] = true
		}
	}
	return sortedKeys(set)
}

func tableSafeWant(x impl.Table) bool {
	for _, h := range tableGuardedWant(x) {
		if !impl.Valid(x.Base.Mem, h) {
			return false
		}
	}
	return impl.TableOk(x)
}

func tableAccountedWant(x impl.Table) bool {
	all := map[int]bool{}
	for _, h := range append(linkedWant(x), pendingWant(x)...) {
		if all[h] || impl.Where(x.Base, h%32) != impl.WhUsed || !impl.Valid(x.Base.Mem, h) {
			return false
		}
		all[h] = true
	}
	return impl.TableOk(x) && len(all) == impl.Tally(x.Base)[impl.WhUsed]
}

// checkCare compares the functions of the chapter with the descriptions above.
func checkCare(t *testing.T, x impl.Table) {
	t.Helper()
	if got := impl.Linked(x); !slices.Equal(got, linkedWant(x)) {
		t.Errorf("Linked = %v, want %v in %+v", got, linkedWant(x), x)
	}
	if got := impl.Pending(x); !slices.Equal(got, pendingWant(x)) {
		t.Errorf("Pending = %v, want %v in %+v", got, pendingWant(x), x)
	}
	if got := impl.TableGuarded(x); !slices.Equal(got, tableGuardedWant(x)) {
		t.Errorf("TableGuarded = %v, want %v in %+v", got, tableGuardedWant(x), x)
	}
	if got := impl.TableSafe(x); got != tableSafeWant(x) {
		t.Errorf("TableSafe = %t in %+v", got, x)
	}
	if got := impl.TableAccounted(x); got != tableAccountedWant(x) {
		t.Errorf("TableAccounted = %t in %+v", got, x)
	}
}

func TestCareOfInvalidTables(t *testing.T) {
	for i, x := range badTables(t) {
		if len(impl.Linked(x)) != 0 || len(impl.Pending(x)) != 0 || len(impl.TableGuarded(x)) != 0 || impl.TableSafe(x) || impl.TableAccounted(x) {
			t.Errorf("there is something in the invalid table %d", i)
		}
	}
	// Of these there would be something of each kind in the valid table.
	x := someTable(t)
	for w, pc := range []int{impl.TpWalk, impl.TpLock} {
		x.Jobs[w] = oddTJob(fullBatch(), pc)
		x.Jobs[w].H = 33
	}
	if len(impl.Linked(x)) == 0 || len(impl.Pending(x)) == 0 || len(impl.TableGuarded(x)) == 0 || !impl.TableSafe(x) || !impl.TableAccounted(x) {
		t.Fatal("there is nothing in a valid table")
	}
	for i, change := range []func(x *impl.Table){
		func(x *impl.Table) { x.Serial = -1 },
		func(x *impl.Table) { x.Bkts[0].Ver = -1 },
		func(x *impl.Table) { x.Jobs[2].Held = []int{0} },
		func(x *impl.Table) { x.Jobs[0].K = 101 },
		func(x *impl.Table) { x.Todo[1].List = badBatches()[:1] },
		func(x *impl.Table) { x.Base.Haz[0] = 1 },
		func(x *impl.Table) { x.Base.Clock.Epoch = 3 },
	} {
		x := copyOfTable(x)
		change(&x)
		if len(impl.Linked(x)) != 0 || len(impl.Pending(x)) != 0 || len(impl.TableGuarded(x)) != 0 || impl.TableSafe(x) || impl.TableAccounted(x) {
			t.Errorf("there is something in the table with change %d", i)
		}
	}
}

func TestLinked(t *testing.T) {
	for _, x := range []struct {
		first, second int
		want          []int
	}{
		{33, 36, []int{32, 33, 36}}, {36, 33, []int{32, 33, 36}}, {0, 0, nil}, {37, 0, []int{36, 37}}, {37, 36, []int{36, 37}}, {33, 32, []int{32, 33}},
		{33, 40, nil}, {41, 33, nil}, {36, 65, nil}, {215, 0, nil},
	} {
		tab := someTable(t)
		tab.Bkts[0].Head, tab.Bkts[1].Head = x.first, x.second
		if got := impl.Linked(tab); !slices.Equal(got, x.want) {
			t.Errorf("Linked of the heads %d and %d is %v", x.first, x.second, got)
		}
		checkCare(t, tab)
	}
}

func TestPendingAtEachStep(t *testing.T) {
	for pc := -1; pc <= 22; pc++ {
		for k := range 9 {
			for _, news := range [][]int{nil, {40}, {41, 37, 40, 33, 32}} {
				for _, olds := range [][]int{nil, {36, 33}, {40, 36, 37, 33, 65, 36}} {
					x := someTable(t)
					for w := range x.Jobs {
						if w != pc%3 {
							continue
						}
						x.Jobs[w] = oddTJob(fullBatch(), pc)
						x.Jobs[w].Writes, x.Jobs[w].K, x.Jobs[w].New, x.Jobs[w].Olds = sixWrites(), k, news, olds
					}
					checkCare(t, x)
				}
			}
		}
	}
	// Of all workers, in ascending order and each once.
	x := someTable(t)
	for w := range x.Jobs {
		x.Jobs[w] = oddTJob(fullBatch(), []int{impl.TpUndo, impl.TpFind, impl.TpRetire}[w])
		x.Jobs[w].K, x.Jobs[w].New, x.Jobs[w].Olds = 1, []int{40, 66 - w}, []int{37, 36 + w, 40}
	}
	if got := impl.Pending(x); !slices.Equal(got, []int{37, 38, 40, 65, 66}) {
		t.Error("Pending is", got)
	}
	checkCare(t, x)
}

func TestGuardedAtEachStep(t *testing.T) {
	pins := []impl.Pin{{}, {On: true, Epoch: 4}, {On: true, Epoch: 5, Marked: true}, {On: true, Seen: 2}}
	for pc := -1; pc <= 22; pc++ {
		for _, h := range []int{0, 33, 37, 41, 215} {
			for p, pin := range pins {
				for w := range impl.Workers {
					x := someTable(t)
					x.Base.Clock.Pins = []impl.Pin{pins[1], pins[1], pins[1]}
					x.Base.Clock.Pins[w] = pin
					x.Jobs[w] = oddTJob(fullBatch(), pc)
					x.Jobs[w].H = h
					safe := true
					if (pc == impl.TpWalk || pc == impl.TpMark) && p%2 == 1 && h != 0 {
						safe = h < 40
						if got := impl.TableGuarded(x); !slices.Equal(got, []int{h}) {
							t.Errorf("%d is not guarded at %d: %v", h, pc, got)
						}
					} else if got := impl.TableGuarded(x); len(got) != 0 {
						t.Errorf("guarded at %d are %v", pc, got)
					}
					if impl.TableSafe(x) != safe {
						t.Errorf("with %d at %d TableSafe is %t", h, pc, !safe)
					}
					checkCare(t, x)
				}
			}
		}
	}
	x := someTable(t)
	x.Base.Clock.Pins = []impl.Pin{pins[1], pins[3], pins[1]}
	for w := range x.Jobs {
		x.Jobs[w] = oddTJob(fullBatch(), impl.TpWalk+w%2)
		x.Jobs[w].H = []int{36, 33, 36}[w]
	}
	if got := impl.TableGuarded(x); !slices.Equal(got, []int{33, 36}) {
		t.Error("guarded are", got)
	}
}

func TestTableAccounted(t *testing.T) {
	good := someTable(t)
	good.Jobs[1] = oddTJob(fullBatch(), impl.TpLock)
	good.Jobs[1].New = []int{40}
	if !impl.TableAccounted(good) || !impl.TableSafe(good) {
		t.Fatal("a table whose nodes are all accounted for is refused")
	}
	for i, change := range []func(x *impl.Table){
		func(x *impl.Table) { x.Jobs[1].New = nil },
		func(x *impl.Table) { x.Jobs[1] = impl.TJob{} },
		func(x *impl.Table) { x.Jobs[1].New = []int{72} },
		func(x *impl.Table) { x.Jobs[1].New = []int{40, 41} },
		func(x *impl.Table) { x.Jobs[1].New = []int{40, 37} },
		func(x *impl.Table) { x.Jobs[1].New = []int{40, 33} },
		func(x *impl.Table) { x.Jobs[1].New, x.Bkts[1].Head = []int{40}, 0 },
		func(x *impl.Table) { x.Jobs[1].New, x.Bkts[1].Head = []int{40}, 37 },
		func(x *impl.Table) { x.Jobs[1].New, x.Bkts[1].Head = []int{36}, 36 },
		func(x *impl.Table) { x.Bkts[1].Head = 40 },
		func(x *impl.Table) { x.Base.Mem, _, _ = impl.AllocNow(x.Base.Mem, 0, 8) },
		func(x *impl.Table) { x.Base.Mem, _ = impl.FreeNow(x.Base.Mem, 0, 40) },
		func(x *impl.Table) { x.Base.Mem, _ = impl.FreeNow(x.Base.Mem, 0, 32) },
		func(x *impl.Table) { x.Base.Limbo, _ = impl.RetireTo(x.Base.Limbo, 0, 36, 1) },
		// As many nodes as slots in use, but not the same.
		func(x *impl.Table) {
			x.Base.Limbo, _ = impl.RetireTo(x.Base.Limbo, 0, 36, 1)
			x.Base.Mem, _, _ = impl.AllocNow(x.Base.Mem, 0, 8)
		},
		func(x *impl.Table) { x.Serial = -1 },
	} {
		x := copyOfTable(good)
		change(&x)
		if impl.TableAccounted(x) {
			t.Errorf("the table with change %d is accounted for", i)
		}
		checkCare(t, x)
	}
	// A node that has left limbo belongs to a job again.
	x := copyOfTable(good)
	x.Base.Limbo, _ = impl.DropRow(x.Base.Limbo, 1, 0)
	x.Jobs[1].New = []int{37, 40}
	if !impl.TableAccounted(x) {
		t.Error("a node that has left limbo is not accounted for")
	}
	// Two jobs may name one node: it is pending once.
	x.Jobs[0] = x.Jobs[1]
	checkCare(t, x)
}

// Between the step that cuts a node off and its retirement the job still owns it.
func TestNodeUnlinkedAndNotYetRetired(t *testing.T) {
	x := impl.TableNew(batches([]impl.Batch{batch(put(2, 1), put(4, 2)), batch(del(4), put(2, 7))}, nil, nil))
	x, _ = done(t, x, 0)
	old := impl.Linked(x)
	if len(old) != 2 || len(impl.Pending(x)) != 0 || !impl.TableAccounted(x) {
		t.Fatal("the nodes are", old, impl.Pending(x))
	}
	seen := map[string]int{}
	x = goOn(t, x, 0, impl.TpAlloc)
	for x.Jobs[0].Busy {
		word := impl.StepWord(x.Jobs[0].Pc)
		linked, pending := impl.Linked(x), impl.Pending(x)
		if !impl.TableAccounted(x) || len(linked)+len(pending) != impl.Tally(x.Base)[impl.WhUsed] {
			t.Fatalf("at %s linked are %v, and pending %v", word, linked, pending)
		}
		for i, h := range old {
			if at := slices.Contains(linked, h); !at && !slices.Contains(pending, h) && !impl.InLimbo(x.Base.Limbo, h%32) {
				t.Fatalf("at %s the old node %d is nowhere", word, i)
			} else if !at && slices.Contains(pending, h) {
				seen[word]++
			}
		}
		x = impl.TableStep(x, 0)
	}
	for _, word := range []string{"find", "fill", "link", "unlock", "retire"} {
		if seen[word] == 0 {
			t.Errorf("at %s no node is cut off: %v", word, seen)
		}
	}
	if impl.LimboSize(x.Base.Limbo) != 2 || len(impl.Pending(x)) != 0 || len(impl.Linked(x)) != 1 || !impl.TableAccounted(x) {
		t.Errorf("at the end %+v", x)
	}
}

// checkCareful checks promise 28 in a state of a schedule.
func checkCareful(t *testing.T, x impl.Table) {
	t.Helper()
	if !impl.TableSafe(x) || !impl.TableAccounted(x) {
		t.Fatalf("safe %t, accounted %t: %+v", impl.TableSafe(x), impl.TableAccounted(x), x)
	}
	for b, bucket := range x.Bkts {
		for w, job := range x.Jobs {
			if slices.Contains(job.Held, b) != (bucket.Lock == w+1) {
				t.Fatalf("the bucket %+v is held by %+v", bucket, job)
			}
		}
	}
}

func TestCareInEveryState(t *testing.T) {
	guarded, limbo := 0, 0
	for i := range 24 {
		for _, s := range []impl.TScript{{Todo: batchesFrom(i), Picks: rushes(i)}, stalls(i), {Todo: batchesFrom(i), Picks: picksFrom(i, 400)}} {
			x := impl.TableNew(s.Todo)
			for n, w := range s.Picks {
				x = impl.TableStep(x, w)
				checkCareful(t, x)
				if n%29 == 0 {
					checkCare(t, x)
				}
				guarded += len(impl.TableGuarded(x))
				limbo = max(limbo, impl.LimboSize(x.Base.Limbo))
			}
			for range 10 {
				x = impl.TableRounds(x, 31)
				checkCareful(t, x)
			}
		}
	}
	if guarded < 500 || limbo < 5 {
		t.Errorf("%d nodes are guarded, at most %d in limbo", guarded, limbo)
	}
}

// Readers are overtaken at each of their steps by a writer that retires what they read and collects until the slots are used again.
func TestOvertakenSearches(t *testing.T) {
	stalled := 0
	for steps := 4; steps < 22; steps++ {
		for _, read := range []impl.Batch{batch(get(4), get(2)), batch(add(2, 1), get(4))} {
			writer := []impl.Batch{batch(put(2, 1), put(4, 2), put(6, 3)), batch(del(2), del(4), put(6, 9)), collect, collect, collect, collect, collect, collect, batch(put(8, 1), put(10, 1), put(12, 1))}
			x := impl.TableNew(batches(writer, []impl.Batch{read}, nil))
			x, _ = done(t, x, 0)
			for range steps {
				x = impl.TableStep(x, 1)
			}
			for x.Jobs[0].Busy || len(x.Todo[0].List) > 0 {
				x = impl.TableStep(x, 0)
				checkCareful(t, x)
			}
			for x.Jobs[1].Busy {
				x = impl.TableStep(x, 1)
				checkCareful(t, x)
			}
			stalled += impl.Codes(x.Log, impl.CdStall)
			if !impl.SerialOk(x) {
				t.Fatalf("after %d steps of the reader: %+v", steps, x.Log)
			}
		}
	}
	if stalled < 6 {
		t.Error("only so many readers stall:", stalled)
	}
}

func TestCareIsPure(t *testing.T) {
	tables := append(everyNth(badTables(t), 15), someTable(t))
	for i := range 60 {
		tables = append(tables, impl.TableRounds(impl.TableNew(batchesFrom(i)), 11*i))
	}
	all := pool(tables...)
	pureOverAll(t, impl.Linked, all)
	pureOverAll(t, impl.Pending, all)
	pureOverAll(t, impl.TableGuarded, all)
	pureOverAll(t, impl.TableSafe, all)
	pureOverAll(t, impl.TableAccounted, all)
}
