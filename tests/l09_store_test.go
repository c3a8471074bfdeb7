package tests

import (
	"math"
	"slices"
	"testing"

	"loop.example/g01538/impl"
)

func copyOfMem(m impl.Mem) impl.Mem {
	return impl.Mem{
		Heap:  impl.Heap{Bytes: slices.Clone(m.Heap.Bytes), Class: slices.Clone(m.Heap.Class)},
		Lists: copyOfLists(m.Lists),
	}
}

// mustAlloc allocates and fails the test unless that gives the handle.
func mustAlloc(t *testing.T, m impl.Mem, w int, size int, handle int) impl.Mem {
	t.Helper()
	next, h, code := impl.AllocNow(m, w, size)
	if h != handle || code != impl.CdOk {
		t.Fatalf("AllocNow of %d bytes by worker %d = %d, %d, want the handle %d", size, w, h, code, handle)
	}
	return next
}

func mustFree(t *testing.T, m impl.Mem, w int, h int) impl.Mem {
	t.Helper()
	next, code := impl.FreeNow(m, w, h)
	if code != impl.CdOk {
		t.Fatalf("FreeNow of %d by worker %d = %d", h, w, code)
	}
	return next
}

// someMem returns a memory with slots in every state; validOfSome are its Valid handles.
func someMem(t *testing.T) impl.Mem {
	t.Helper()
	m := mustAlloc(t, impl.MemNew(), 0, 8, 32)
	m = mustAlloc(t, m, 0, 1, 35)
	m = mustAlloc(t, m, 1, 8, 34)
	m = mustAlloc(t, m, 1, 8, 33)
	m = mustFree(t, m, 2, 34)
	m = mustFree(t, m, 0, 32)
	m = mustAlloc(t, m, 0, 5, 64)
	m = mustAlloc(t, m, 2, 16, 36)
	m = mustAlloc(t, m, 2, 9, 37)
	h := 40
	m = mustAlloc(t, m, 1, 40, h)
	for range 2 {
		m = mustFree(t, m, 1, h)
		h += 32
		m = mustAlloc(t, m, 1, 17, h)
	}
	m = mustAlloc(t, m, 1, 20, 44)
	for gen := 2; gen <= 6; gen++ {
		m = mustFree(t, m, 2, 32*(gen-1)+12)
		m = mustAlloc(t, m, 2, 20, 32*gen+12)
	}
	return mustFree(t, m, 2, 192+12)
}

var validOfSome = []int{33, 35, 64, 104, 36, 37}

func badMems(t *testing.T) []impl.Mem {
	var bad []impl.Mem
	good := someMem(t)
	shapeless, broken := badHeaps()
	for _, h := range append(shapeless, broken...) {
		bad = append(bad, impl.Mem{Heap: h, Lists: impl.ListsNew()})
	}
	for _, l := range badLists() {
		bad = append(bad, impl.Mem{Heap: heapOf(0, 0, 0, 0, 0, 0), Lists: l})
	}
	// Slot 6 is not carved, slot 16 has no page, slot 4 has class 1, slot 12 is used up.
	for _, x := range [][2]int{{1, 6}, {1, 16}, {0, 16}, {0, 4}, {2, 4}, {2, 12}} {
		global, own := copyOfMem(good), copyOfMem(good)
		global.Lists.Global[x[0]].Slots = append(global.Lists.Global[x[0]].Slots, x[1])
		own.Lists.Own[3+x[0]].Slots = append(own.Lists.Own[3+x[0]].Slots, x[1])
		bad = append(bad, global, own)
	}
	return append(bad, impl.Mem{}, impl.Mem{Heap: good.Heap}, impl.Mem{Lists: good.Lists})
}

func TestCodeWord(t *testing.T) {
	words := []string{"ok", "args", "size", "full", "stale", "guard", "stall", "clash", "none"}
	codes := []int{impl.CdOk, impl.CdArgs, impl.CdSize, impl.CdFull, impl.CdStale, impl.CdGuard, impl.CdStall, impl.CdClash, impl.CdNone}
	for i, code := range codes {
		if code != i || impl.CodeWord(code) != words[i] {
			t.Errorf("code %d is %d with the word %q", i, code, impl.CodeWord(code))
		}
	}
	for _, code := range []int{math.MinInt, -2, -1, 9, 10, 256, math.MaxInt} {
		if word := impl.CodeWord(code); word != "" {
			t.Errorf("code %d has the word %q", code, word)
		}
	}
}

func TestMemNew(t *testing.T) {
	m := impl.MemNew()
	if !impl.MemOk(m) || !impl.SameHeap(m.Heap, impl.HeapNew()) || !impl.SameLists(m.Lists, impl.ListsNew()) {
		t.Error("MemNew is", m)
	}
	if got := impl.Counts(m); !slices.Equal(got, []int{24, 0, 0, 0}) {
		t.Error("the counts are", got)
	}
}

func TestMemOk(t *testing.T) {
	if !impl.MemOk(someMem(t)) {
		t.Error("a valid memory is refused")
	}
	for i, m := range badMems(t) {
		if impl.MemOk(m) {
			t.Errorf("invalid memory %d is accepted: %v", i, m)
		}
	}
	last := copyOfMem(someMem(t))
	last.Heap, _ = impl.SetGen(last.Heap, 0, 6)
	last.Lists.Own[6].Slots = append(last.Lists.Own[6].Slots, 0)
	if !impl.MemOk(last) {
		t.Error("a slot with the last generation may be on a list")
	}
	last.Heap, _ = impl.SetGen(last.Heap, 0, 7)
	if impl.MemOk(last) {
		t.Error("a slot that is used up may not be on a list")
	}
}

func TestInvalidMemoryGetsFixedResults(t *testing.T) {
	for i, m := range badMems(t) {
		for _, slot := range []int{-1, 0, 4, 23} {
			if impl.StateOf(m, slot) != impl.StNone {
				t.Errorf("memory %d: slot %d has a state", i, slot)
			}
		}
		if got := impl.Counts(m); !slices.Equal(got, []int{0, 0, 0, 0}) {
			t.Errorf("memory %d: the counts are %v", i, got)
		}
		next, h, code := impl.AllocNow(m, 0, 8)
		if h != 0 || code != impl.CdArgs || !impl.SameMem(next, m) {
			t.Errorf("memory %d: AllocNow = %d, %d", i, h, code)
		}
		for _, h := range validOfSome {
			if impl.Valid(m, h) {
				t.Errorf("memory %d: %d is Valid", i, h)
			}
			if next, code := impl.FreeNow(m, 0, h); code != impl.CdArgs || !impl.SameMem(next, m) {
				t.Errorf("memory %d: FreeNow = %d", i, code)
			}
			if n, code := impl.LoadIn(m, h, 0, 1); n != 0 || code != impl.CdArgs {
				t.Errorf("memory %d: LoadIn = %d, %d", i, n, code)
			}
			if next, code := impl.StoreIn(m, h, 0, 1, 9); code != impl.CdArgs || !impl.SameMem(next, m) {
				t.Errorf("memory %d: StoreIn = %d", i, code)
			}
		}
	}
}

func TestStates(t *testing.T) {
	if impl.StNone != 0 || impl.StFree != 1 || impl.StGone != 2 || impl.StUsed != 3 {
		t.Error("the states are", impl.StNone, impl.StFree, impl.StGone, impl.StUsed)
	}
	m := someMem(t)
	want := map[int]int{0: impl.StUsed, 1: impl.StUsed, 2: impl.StFree, 3: impl.StUsed, 4: impl.StUsed, 5: impl.StUsed, 8: impl.StUsed, 12: impl.StGone}
	for slot := -3; slot <= 27; slot++ {
		if got := impl.StateOf(m, slot); got != want[slot] {
			t.Errorf("slot %d has state %d, want %d", slot, got, want[slot])
		}
	}
	for _, slot := range manyInts() {
		if slot > 23 || slot < 0 {
			if got := impl.StateOf(m, slot); got != impl.StNone {
				t.Errorf("slot %d has state %d", slot, got)
			}
		}
	}
	if got := impl.Counts(m); !slices.Equal(got, []int{16, 1, 1, 6}) {
		t.Error("the counts are", got)
	}
}

func TestValid(t *testing.T) {
	m := someMem(t)
	for h := -100; h <= 300; h++ {
		if got := impl.Valid(m, h); got != slices.Contains(validOfSome, h) {
			t.Errorf("Valid(%d) = %t", h, got)
		}
	}
	for _, h := range manyInts() {
		if impl.Valid(m, h) {
			t.Errorf("Valid(%d)", h)
		}
	}
}

func TestHandleOfAnotherGeneration(t *testing.T) {
	m := someMem(t)
	for _, h := range validOfSome {
		for gen := 1; gen <= impl.MaxGen; gen++ {
			other := impl.HandleOf(impl.HandleSlot(h), gen)
			if other == h {
				continue
			}
			stale(t, m, other)
		}
	}
	// A free slot and a slot that is used up have no Valid handle; the others are no handles.
	for gen := 1; gen <= impl.MaxGen; gen++ {
		stale(t, m, impl.HandleOf(2, gen))
		stale(t, m, impl.HandleOf(12, gen))
		stale(t, m, impl.HandleOf(7, gen))
		stale(t, m, impl.HandleOf(16, gen))
	}
	for _, h := range []int{math.MinInt, -33, -1, 0, 1, 31, 56, 63, 224, 224 + 12, math.MaxInt} {
		stale(t, m, h)
	}
}

func stale(t *testing.T, m impl.Mem, h int) {
	t.Helper()
	if impl.Valid(m, h) {
		t.Errorf("%d is Valid", h)
	}
	if next, code := impl.FreeNow(m, 1, h); code != impl.CdStale || !impl.SameMem(next, m) {
		t.Errorf("FreeNow of %d = %d", h, code)
	}
	for _, at := range []int{0, -1, 100} {
		if n, code := impl.LoadIn(m, h, at, 1); n != 0 || code != impl.CdStale {
			t.Errorf("LoadIn of %d = %d, %d", h, n, code)
		}
		for _, n := range []int{9, 256, -1} {
			if next, code := impl.StoreIn(m, h, at, 1, n); code != impl.CdStale || !impl.SameMem(next, m) {
				t.Errorf("StoreIn of %d = %d", h, code)
			}
		}
	}
}

func TestAllocTakesLocalThenGlobalThenGrants(t *testing.T) {
	m := mustAlloc(t, impl.MemNew(), 1, 8, 32)
	if !impl.SameLists(m.Lists, listsOf([][]int{{1, 2, 3}, nil, nil}, make([][]int, 9))) || !slices.Equal(m.Heap.Class, []int{0, -1, -1, -1, -1, -1}) {
		t.Fatal("the first page is", m.Lists, m.Heap.Class)
	}
	m = mustAlloc(t, m, 0, 8, 35)
	m = mustFree(t, m, 2, 32)
	m = mustFree(t, m, 2, 35)
	if !impl.SameLists(m.Lists, listsOf([][]int{{1, 2}, nil, nil}, [][]int{nil, nil, nil, nil, nil, nil, {0, 3}, nil, nil})) {
		t.Fatal("the freed slots are on", m.Lists)
	}
	// Worker 1 has no local list, worker 2 takes its own, last in first out, and then from the global one.
	m = mustAlloc(t, m, 1, 8, 34)
	m = mustAlloc(t, m, 2, 8, 67)
	m = mustAlloc(t, m, 2, 8, 64)
	m = mustAlloc(t, m, 2, 8, 33)
	m = mustAlloc(t, m, 2, 8, 36)
	if !impl.SameLists(m.Lists, listsOf([][]int{{5, 6, 7}, nil, nil}, make([][]int, 9))) || !slices.Equal(m.Heap.Class, []int{0, 0, -1, -1, -1, -1}) {
		t.Fatal("the second page is", m.Lists, m.Heap.Class)
	}
	m = mustAlloc(t, m, 2, 9, 40)
	if !impl.SameLists(m.Lists, listsOf([][]int{{5, 6, 7}, {9}, nil}, make([][]int, 9))) {
		t.Fatal("the third page is", m.Lists)
	}
	m = mustAlloc(t, m, 2, 40, 44)
	if !impl.SameLists(m.Lists, listsOf([][]int{{5, 6, 7}, {9}, nil}, make([][]int, 9))) {
		t.Fatal("the fourth page is", m.Lists)
	}
}

func TestAllocCodes(t *testing.T) {
	full := impl.Mem{Heap: heapOf(0, 0, 0, 0, 0, 0), Lists: impl.ListsNew()}
	for _, x := range []struct {
		m            impl.Mem
		w, size, cod int
	}{
		{someMem(t), -1, 8, impl.CdArgs},
		{someMem(t), 3, 8, impl.CdArgs},
		{someMem(t), math.MaxInt, 8, impl.CdArgs},
		{someMem(t), math.MinInt, 0, impl.CdArgs},
		{full, 3, 0, impl.CdArgs},
		{someMem(t), 0, 0, impl.CdSize},
		{someMem(t), 0, -1, impl.CdSize},
		{someMem(t), 0, 41, impl.CdSize},
		{someMem(t), 2, math.MaxInt, impl.CdSize},
		{someMem(t), 2, math.MinInt, impl.CdSize},
		{full, 0, 41, impl.CdSize},
		{full, 0, 8, impl.CdFull},
		{full, 1, 16, impl.CdFull},
		{full, 2, 40, impl.CdFull},
	} {
		if next, h, code := impl.AllocNow(x.m, x.w, x.size); h != 0 || code != x.cod || !impl.SameMem(next, x.m) {
			t.Errorf("AllocNow of %d bytes by worker %d = %d, %d, want code %d", x.size, x.w, h, code, x.cod)
		}
	}
}

func TestAllocDoesNotTakeFromOthers(t *testing.T) {
	m := impl.Mem{Heap: heapOf(0, 0, 0, 0, 0, 1), Lists: impl.ListsNew()}
	m.Lists.Own[3].Slots = []int{0, 1}
	m.Lists.Global[1].Slots = []int{20, 21}
	for _, w := range []int{0, 2} {
		if next, h, code := impl.AllocNow(m, w, 8); h != 0 || code != impl.CdFull || !impl.SameMem(next, m) {
			t.Errorf("worker %d takes %d from the list of another", w, h)
		}
	}
	mustAlloc(t, m, 1, 8, 33)
	mustAlloc(t, m, 0, 16, 53)
}

func TestFreeGivesToTheWorker(t *testing.T) {
	m := impl.MemNew()
	for _, h := range []int{32, 35, 34, 33} {
		m = mustAlloc(t, m, 0, 8, h)
	}
	m = mustFree(t, m, 1, 32)
	m = mustFree(t, m, 1, 33)
	m = mustFree(t, m, 1, 34)
	m = mustFree(t, m, 0, 35)
	if !impl.SameLists(m.Lists, listsOf([][]int{{2}, nil, nil}, [][]int{{3}, nil, nil, {0, 1}, nil, nil, nil, nil, nil})) {
		t.Error("the freed slots are on", m.Lists)
	}
	for slot := range 4 {
		if impl.GenIn(m.Heap, slot) != 2 || impl.StateOf(m, slot) != impl.StFree {
			t.Errorf("slot %d has generation %d", slot, impl.GenIn(m.Heap, slot))
		}
	}
}

func TestFreeCodes(t *testing.T) {
	m := someMem(t)
	for _, w := range []int{math.MinInt, -1, 3, math.MaxInt} {
		for _, h := range []int{33, 32, 0} {
			if next, code := impl.FreeNow(m, w, h); code != impl.CdArgs || !impl.SameMem(next, m) {
				t.Errorf("FreeNow of %d by worker %d = %d", h, w, code)
			}
		}
	}
}

func TestFreeOfTheLastGeneration(t *testing.T) {
	m := impl.Mem{Heap: heapOf(2), Lists: impl.ListsNew()}
	m.Heap, _ = impl.SetGen(m.Heap, 0, 6)
	next := mustFree(t, m, 0, 192)
	if impl.GenIn(next.Heap, 0) != 7 || impl.StateOf(next, 0) != impl.StGone || !impl.SameLists(next.Lists, impl.ListsNew()) || !impl.MemOk(next) {
		t.Error("the slot has generation", impl.GenIn(next.Heap, 0), next.Lists)
	}
	stale(t, next, 192)
}

func TestLoadAndStoreInsideTheRange(t *testing.T) {
	m := someMem(t)
	for _, h := range validOfSome {
		slot := impl.HandleSlot(h)
		c := impl.ClassAt(m.Heap, slot)
		for at := -9; at <= impl.SizeOf(c)+2; at++ {
			for width := -1; width <= 9; width++ {
				code := impl.CdOk
				if width < 1 || width > 7 {
					code = impl.CdArgs
				} else if at < 0 || at+width > impl.SizeOf(c) {
					code = impl.CdSize
				}
				checkAccess(t, m, h, at, width, code)
			}
		}
	}
	for _, x := range []int{math.MinInt, math.MinInt + 1, math.MaxInt - 7, math.MaxInt - 1, math.MaxInt} {
		checkAccess(t, m, 33, x, 1, impl.CdSize)
		checkAccess(t, m, 33, x, 7, impl.CdSize)
		checkAccess(t, m, 33, 0, x, impl.CdArgs)
		checkAccess(t, m, 0, 0, x, impl.CdArgs)
		checkAccess(t, m, 0, x, 1, impl.CdStale)
	}
}

// checkAccess stores and loads at this place, where LoadIn must give this code.
func checkAccess(t *testing.T, m impl.Mem, h int, at int, width int, code int) {
	t.Helper()
	for _, n := range limitsOf() {
		want, codeWant := m, code
		if code == impl.CdOk {
			slot := impl.HandleSlot(h)
			bytes, ok := storeWant(m.Heap.Bytes, impl.StartOf(slot, impl.ClassAt(m.Heap, slot))+at, width, n)
			want.Heap.Bytes = bytes
			if !ok {
				codeWant = impl.CdArgs
			}
		}
		next, got := impl.StoreIn(m, h, at, width, n)
		if got != codeWant || !impl.SameMem(next, want) {
			t.Fatalf("StoreIn of %d at %d of width %d in %d = %d, want %d", n, at, width, h, got, codeWant)
		}
		loaded, got := impl.LoadIn(next, h, at, width)
		if got != code || code != impl.CdOk && loaded != 0 || codeWant == impl.CdOk && loaded != n {
			t.Fatalf("LoadIn at %d of width %d in %d = %d, %d after %d", at, width, h, loaded, got, n)
		}
	}
}

func TestSameMem(t *testing.T) {
	m := someMem(t)
	if !impl.SameMem(m, someMem(t)) || !impl.SameMem(impl.Mem{}, impl.Mem{}) {
		t.Error("equal memories differ")
	}
	others := append(badMems(t), impl.MemNew(), impl.Mem{Heap: changed(m.Heap, 300, 1), Lists: m.Lists})
	for _, other := range others {
		if impl.SameMem(m, other) || impl.SameMem(other, m) {
			t.Error("other memories are the same:", other)
		}
	}
}

// live is what a test knows of a Valid handle.
type live struct {
	size  int
	bytes []int
}

// TestMemWalk allocates, frees, stores and loads in a fixed disorder and follows what each handle must contain.
func TestMemWalk(t *testing.T) {
	for run := range 6 {
		m, now, ever := impl.MemNew(), map[int]live{}, map[int]bool{}
		uses := map[int]int{}
		for step, x := range spread(1500*(run+1), 1<<40)[1500*run:] {
			w, size := x%3, []int{1, 8, 9, 16, 17, 40}[x/3%6]
			h := pickHandle(now, x/18)
			switch x / 1000 % 5 {
			case 0, 1:
				next, got, code := impl.AllocNow(m, w, size)
				if code == impl.CdOk {
					if ever[got] || !impl.HandleOk(got) {
						t.Fatalf("step %d: AllocNow returns %d again", step, got)
					}
					ever[got] = true
					uses[impl.HandleSlot(got)]++
					span := impl.RangeOf(impl.HandleSlot(got), impl.ClassOf(size))
					now[got] = live{span.To - span.From, slices.Clone(m.Heap.Bytes[span.From:span.To])}
					if uses[impl.HandleSlot(got)] == 1 {
						now[got] = live{span.To - span.From, make([]int, span.To-span.From)}
					}
				} else if code != impl.CdFull || got != 0 || !impl.SameMem(m, next) {
					t.Fatalf("step %d: AllocNow = %d, %d", step, got, code)
				}
				m = next
			case 2:
				next, code := impl.FreeNow(m, w, h)
				if _, is := now[h]; is != (code == impl.CdOk) {
					t.Fatalf("step %d: FreeNow of %d = %d", step, h, code)
				}
				delete(now, h)
				m = next
			default:
				m = storeLive(t, m, now, h, x)
			}
			checkLive(t, m, now, ever)
		}
		for slot, n := range uses {
			if n > impl.MaxGen {
				t.Fatalf("slot %d is used %d times", slot, n)
			}
		}
	}
}

// pickHandle returns one of the live handles, or sometimes any number.
func pickHandle(now map[int]live, x int) int {
	l := make([]int, 0, len(now))
	for h := range now {
		l = append(l, h)
	}
	slices.Sort(l)
	if len(l) == 0 || x%5 == 0 {
		return x / 5 % 230
	}
	return l[x/5%len(l)]
}

func storeLive(t *testing.T, m impl.Mem, now map[int]live, h int, x int) impl.Mem {
	t.Helper()
	at, width := x/7%45-2, 1+x/11%7
	n := x % (1 << (8 * min(width, 4)))
	next, code := impl.StoreIn(m, h, at, width, n)
	l, is := now[h]
	fits := is && at >= 0 && at+width <= l.size
	if (code == impl.CdOk) != fits || !fits && !impl.SameMem(m, next) {
		t.Fatalf("StoreIn at %d of width %d in %d = %d", at, width, h, code)
	}
	if fits {
		l.bytes, _ = storeWant(l.bytes, at, width, n)
		now[h] = l
	}
	return next
}

// checkLive compares the memory with what is known of the handles.
func checkLive(t *testing.T, m impl.Mem, now map[int]live, ever map[int]bool) {
	t.Helper()
	if !impl.MemOk(m) || impl.Counts(m)[impl.StUsed] != len(now) {
		t.Fatalf("the memory has the counts %v with %d handles", impl.Counts(m), len(now))
	}
	for h := range ever {
		l, is := now[h]
		if impl.Valid(m, h) != is {
			t.Fatalf("Valid(%d) is not %t", h, is)
		}
		for at, want := range l.bytes {
			if n, code := impl.LoadIn(m, h, at, 1); n != want || code != impl.CdOk {
				t.Fatalf("byte %d of %d is %d, %d, want %d", at, h, n, code, want)
			}
		}
	}
}

// TestEachSlotIsUsedMaxGenTimes allocates and frees until nothing is left.
func TestEachSlotIsUsedMaxGenTimes(t *testing.T) {
	for c, slots := range []int{24, 12, 6} {
		m, seen := impl.MemNew(), map[int]bool{}
		for i := 0; ; i++ {
			next, h, code := impl.AllocNow(m, i%3, impl.SizeOf(c))
			if code == impl.CdFull {
				break
			}
			if code != impl.CdOk || seen[h] {
				t.Fatalf("class %d: AllocNow = %d, %d", c, h, code)
			}
			seen[h] = true
			// The same worker frees, so that no slot stays on the local list of another one.
			m = mustFree(t, next, i%3, h)
			if i%3 == 2 && len(seen) > impl.MaxGen*slots {
				t.Fatalf("class %d: %d handles", c, len(seen))
			}
			stale(t, m, h)
		}
		for w := range impl.Workers {
			for {
				next, h, code := impl.AllocNow(m, w, impl.SizeOf(c))
				if code == impl.CdFull {
					break
				}
				seen[h] = true
				m = mustFree(t, next, w, h)
			}
		}
		if got := impl.Counts(m); len(seen) != impl.MaxGen*slots || !slices.Equal(got, []int{24 - slots, 0, slots, 0}) {
			t.Errorf("class %d: %d handles and the counts %v", c, len(seen), got)
		}
	}
}

func TestMemsArePure(t *testing.T) {
	mems := pool(append(badMems(t)[25:], impl.MemNew(), someMem(t))...)
	few := pool(impl.Mem{}, impl.MemNew(), someMem(t))
	handles := pool(-1, 0, 32, 33, 64, 104)
	workers := pool(-1, 0, 2)
	pure(t, impl.MemNew)
	pureOverAll(t, impl.MemOk, mems)
	pureOverAll(t, impl.StateOf, mems, pool(-1, 0, 2, 12, 23))
	pureOverAll(t, impl.Counts, mems)
	pureOverAll(t, impl.Valid, mems, handles)
	pureOverAll(t, impl.AllocNow, mems, workers, pool(0, 8, 9, 40))
	pureOverAll(t, impl.FreeNow, mems, workers, handles)
	pureOverAll(t, impl.LoadIn, few, handles, pool(-1, 0, 8), pool(0, 1, 7))
	pureOverAll(t, impl.StoreIn, few, handles, pool(-1, 0, 8), pool(0, 1), pool(-1, 0, 255, 256))
	pureOverAll(t, impl.SameMem, few, few)
}
