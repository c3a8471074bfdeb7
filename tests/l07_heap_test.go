package tests

import (
	"math"
	"slices"
	"testing"

	"loop.example/g01538/impl"
)

// heapOf returns a new heap in which pages are granted to these classes.
func heapOf(classes ...int) impl.Heap {
	h := impl.HeapNew()
	for _, c := range classes {
		h, _ = impl.Grant(h, c)
	}
	return h
}

// changed returns a copy of the heap with one other byte.
func changed(h impl.Heap, at int, x int) impl.Heap {
	next := impl.Heap{Bytes: slices.Clone(h.Bytes), Class: slices.Clone(h.Class)}
	next.Bytes[at] = x
	return next
}

// reclassed returns a copy of the heap in which a page has another class.
func reclassed(h impl.Heap, page int, c int) impl.Heap {
	next := impl.Heap{Bytes: slices.Clone(h.Bytes), Class: slices.Clone(h.Class)}
	next.Class[page] = c
	return next
}

// shapeWant is the valid shape as the document describes it.
func shapeWant(h impl.Heap) bool {
	ok := len(h.Bytes) == 384 && len(h.Class) == 6
	for _, x := range h.Bytes {
		ok = ok && x >= 0 && x <= 255
	}
	for _, c := range h.Class {
		ok = ok && c >= -1 && c <= 2
	}
	return ok
}

// genWant returns the generation of a carved slot, or 0.
func genWant(h impl.Heap, slot int) int {
	if !slices.Contains(carvedWant(h), slot) {
		return 0
	}
	c := h.Class[slot/4]
	at := slot/4*64 + 8 + slot%4*[]int{12, 20, 44}[c]
	return h.Bytes[at]<<24 + h.Bytes[at+1]<<16 + h.Bytes[at+2]<<8 + h.Bytes[at+3]
}

func carvedWant(h impl.Heap) []int {
	var l []int
	if !shapeWant(h) {
		return l
	}
	for slot := range 24 {
		if c := h.Class[slot/4]; c >= 0 && slot%4 < []int{4, 2, 1}[c] {
			l = append(l, slot)
		}
	}
	return l
}

// heapWant is the validity of a heap as the document describes it.
func heapWant(h impl.Heap) bool {
	if !shapeWant(h) {
		return false
	}
	for page, c := range h.Class {
		b := h.Bytes[page*64 : page*64+64]
		want := make([]int, 64)
		if c >= 0 {
			copy(want, []int{171, c, []int{4, 2, 1}[c]})
			b = b[:8]
		}
		if !slices.Equal(b, want[:len(b)]) {
			return false
		}
	}
	for _, slot := range carvedWant(h) {
		if gen := genWant(h, slot); gen < 1 || gen > 7 {
			return false
		}
	}
	return true
}

func checkHeap(t *testing.T, h impl.Heap) {
	t.Helper()
	if got, want := impl.HeapOk(h), heapWant(h); got != want {
		t.Fatalf("HeapOk is %t for the classes %v and the bytes %v", got, h.Class, h.Bytes)
	}
	carved := carvedWant(h)
	if got := impl.Carved(h); !slices.Equal(got, carved) {
		t.Fatalf("Carved is %v for the classes %v, want %v", got, h.Class, carved)
	}
	for slot := -2; slot <= 25; slot++ {
		class := -1
		if slices.Contains(carved, slot) {
			class = h.Class[slot/4]
		}
		if impl.ClassAt(h, slot) != class || impl.GenIn(h, slot) != genWant(h, slot) {
			t.Fatalf("slot %d has class %d and generation %d in the classes %v", slot, impl.ClassAt(h, slot), impl.GenIn(h, slot), h.Class)
		}
	}
}

// badHeaps returns heaps without a valid shape, and heaps with one that are invalid.
func badHeaps() (shapeless []impl.Heap, broken []impl.Heap) {
	h := heapOf(0, 1, 2)
	shapeless = []impl.Heap{
		{}, {Bytes: h.Bytes}, {Class: h.Class},
		{Bytes: h.Bytes[:383], Class: h.Class},
		{Bytes: append(slices.Clone(h.Bytes), 0), Class: h.Class},
		{Bytes: h.Bytes, Class: h.Class[:5]},
		{Bytes: h.Bytes, Class: append(slices.Clone(h.Class), -1)},
		{Bytes: make([]int, 1001), Class: h.Class},
		changed(h, 383, 256), changed(h, 383, -1), changed(h, 0, 427), changed(h, 100, math.MinInt),
		reclassed(h, 5, -2), reclassed(h, 5, 3), reclassed(h, 0, math.MaxInt),
	}
	broken = []impl.Heap{
		changed(h, 0, 170), changed(h, 1, 1), changed(h, 2, 3), changed(h, 3, 1), changed(h, 7, 1), changed(h, 64, 0),
		changed(h, 11, 0), changed(h, 11, 8), changed(h, 8, 1), changed(h, 192, 1), changed(h, 383, 1),
		reclassed(h, 0, -1), reclassed(h, 0, 1), reclassed(h, 2, 0), reclassed(h, 5, 0),
	}
	return shapeless, broken
}

func TestHeapNew(t *testing.T) {
	h := impl.HeapNew()
	if len(h.Bytes) != 384 || slices.Max(h.Bytes) != 0 || slices.Min(h.Bytes) != 0 || !slices.Equal(h.Class, []int{-1, -1, -1, -1, -1, -1}) {
		t.Errorf("HeapNew is %v", h)
	}
	checkHeap(t, h)
	if !impl.HeapOk(h) || impl.Ungranted(h) != 6 {
		t.Error("HeapNew is invalid")
	}
}

func TestHeapOfEveryChangedByte(t *testing.T) {
	for _, h := range []impl.Heap{heapOf(), heapOf(0, 1, 2), heapOf(2, 0, 0, 1, 1, 2)} {
		checkHeap(t, h)
		for at := range impl.ArenaLen {
			for _, x := range []int{-1, 0, 1, 2, 4, 6, 7, 8, 171, 255, 256} {
				checkHeap(t, changed(h, at, x))
			}
		}
		for page := range impl.Pages {
			for c := -3; c <= 4; c++ {
				checkHeap(t, reclassed(h, page, c))
			}
		}
	}
}

func TestBadHeaps(t *testing.T) {
	shapeless, broken := badHeaps()
	for _, h := range append(shapeless, broken...) {
		checkHeap(t, h)
		if impl.HeapOk(h) {
			t.Error("an invalid heap is accepted:", h)
		}
		for c := range impl.Classes {
			if next, slots := impl.Grant(h, c); len(slots) != 0 || !impl.SameHeap(next, h) {
				t.Error("an invalid heap grants", slots)
			}
		}
	}
	for _, h := range shapeless {
		if next, ok := impl.SetGen(h, 0, 1); ok || !impl.SameHeap(next, h) {
			t.Error("SetGen accepts a heap without a valid shape:", h)
		}
		if len(impl.Carved(h)) != 0 || impl.ClassAt(h, 0) != -1 || impl.GenIn(h, 0) != 0 {
			t.Error("a slot is carved in a heap without a valid shape:", h)
		}
	}
}

func TestUngrantedAcceptsAnyHeap(t *testing.T) {
	for _, x := range []struct {
		h    impl.Heap
		want int
	}{
		{impl.Heap{}, 0},
		{impl.Heap{Class: []int{-1}}, 1},
		{impl.Heap{Class: []int{-1, -2, 5, 0, -1, -1, -1, -1, -1}}, 6},
		{heapOf(), 6},
		{heapOf(1), 5},
		{heapOf(0, 0, 0, 0, 0, 0), 0},
	} {
		if got := impl.Ungranted(x.h); got != x.want {
			t.Errorf("Ungranted of %v is %d, want %d", x.h.Class, got, x.want)
		}
	}
}

// checkGrant grants the next page of a valid heap to class c and returns the heap.
func checkGrant(t *testing.T, h impl.Heap, c int) impl.Heap {
	t.Helper()
	page := slices.Index(h.Class, -1)
	next, slots := impl.Grant(h, c)
	want := impl.Heap{Bytes: slices.Clone(h.Bytes), Class: slices.Clone(h.Class)}
	var slotsWant []int
	if page >= 0 {
		per := []int{4, 2, 1}[c]
		want.Class[page] = c
		copy(want.Bytes[page*64:], []int{171, c, per})
		for i := range per {
			slotsWant = append(slotsWant, page*4+i)
			want.Bytes[page*64+8+i*[]int{12, 20, 44}[c]+3] = 1
		}
	}
	if !slices.Equal(slots, slotsWant) || !slices.Equal(next.Bytes, want.Bytes) || !slices.Equal(next.Class, want.Class) {
		t.Fatalf("a page of class %d granted in %v: %v, %v", c, h.Class, slots, next)
	}
	for _, slot := range slots {
		if impl.GenIn(next, slot) != 1 || impl.ClassAt(next, slot) != c {
			t.Fatalf("slot %d has generation %d and class %d", slot, impl.GenIn(next, slot), impl.ClassAt(next, slot))
		}
	}
	return next
}

func TestGrantEveryOrderOfClasses(t *testing.T) {
	for code := range 729 {
		h := impl.HeapNew()
		for page := range impl.Pages {
			h = checkGrant(t, h, code%3)
			code /= 3
			if !impl.HeapOk(h) || impl.Ungranted(h) != 5-page {
				t.Fatalf("after page %d the heap with the classes %v has %d ungranted pages", page, h.Class, impl.Ungranted(h))
			}
		}
		for c := range impl.Classes {
			checkGrant(t, h, c)
		}
	}
}

func TestGrantTheLastPage(t *testing.T) {
	h := heapOf(0, 1, 2, 1, 0)
	for c, want := range [][]int{{20, 21, 22, 23}, {20, 21}, {20}} {
		next, slots := impl.Grant(h, c)
		if !slices.Equal(slots, want) || impl.Ungranted(next) != 0 || !impl.HeapOk(next) {
			t.Errorf("the last page of class %d has the slots %v", c, slots)
		}
		if again, slots := impl.Grant(next, c); len(slots) != 0 || !impl.SameHeap(again, next) {
			t.Errorf("beyond the last page there are the slots %v", slots)
		}
	}
}

func TestGrantTheFirstUngrantedPage(t *testing.T) {
	// A gap does not come from grants alone, but such a heap is valid.
	h := heapOf(0, 1, 2)
	copy(h.Bytes[64:128], make([]int, 64))
	h.Class[1] = -1
	if !impl.HeapOk(h) {
		t.Fatal("the heap with a gap is invalid")
	}
	next := checkGrant(t, h, 2)
	if !slices.Equal(next.Class, []int{0, 2, 2, -1, -1, -1}) {
		t.Error("the gap is not granted:", next.Class)
	}
	checkGrant(t, next, 0)
}

func TestGrantKeepsContents(t *testing.T) {
	h := heapOf(0, 1)
	for i := 12; i < 20; i++ {
		h.Bytes[i] = 200 + i
	}
	h, _ = impl.SetGen(h, 5, 7)
	checkGrant(t, h, 2)
}

func TestGrantRefusesClasses(t *testing.T) {
	h := heapOf(0, 1)
	for _, c := range append(manyInts(), 3, 4) {
		if next, slots := impl.Grant(h, c); len(slots) != 0 || !impl.SameHeap(next, h) {
			t.Errorf("class %d gets the slots %v", c, slots)
		}
	}
}

func TestSetGen(t *testing.T) {
	h := heapOf(0, 1, 2)
	for slot := -3; slot <= 26; slot++ {
		for _, gen := range []int{math.MinInt, -1, 0, 1, 2, 6, 7, 8, 256, 257, 1 << 32, 1<<32 + 1, math.MaxInt} {
			next, ok := impl.SetGen(h, slot, gen)
			want := slices.Contains([]int{0, 1, 2, 3, 4, 5, 8}, slot) && gen >= 1 && gen <= 7
			if ok != want || !want && !impl.SameHeap(next, h) {
				t.Fatalf("SetGen of slot %d to %d is %t", slot, gen, ok)
			}
			if want {
				at := slot/4*64 + 8 + slot%4*[]int{12, 20, 44}[slot/4]
				if !impl.SameHeap(next, changed(h, at+3, gen)) || impl.GenIn(next, slot) != gen || !impl.HeapOk(next) {
					t.Fatalf("SetGen of slot %d to %d sets %d", slot, gen, impl.GenIn(next, slot))
				}
			}
		}
	}
}

func TestSetGenOfAnInvalidHeap(t *testing.T) {
	// A valid shape suffices.
	h := changed(heapOf(0), 3, 9)
	h.Bytes[8], h.Bytes[11] = 255, 0
	if impl.HeapOk(h) || impl.GenIn(h, 0) != 255<<24 {
		t.Fatal("the heap has generation", impl.GenIn(h, 0))
	}
	if next, ok := impl.SetGen(h, 0, 5); !ok || impl.GenIn(next, 0) != 5 || next.Bytes[3] != 9 {
		t.Error("the generation is", impl.GenIn(next, 0), ok)
	}
}

func TestSameHeap(t *testing.T) {
	h := heapOf(0, 1)
	if !impl.SameHeap(h, heapOf(0, 1)) || !impl.SameHeap(impl.Heap{}, impl.Heap{Bytes: []int{}, Class: []int{}}) {
		t.Error("equal heaps differ")
	}
	for _, other := range []impl.Heap{{}, {Bytes: h.Bytes}, {Class: h.Class}, {Bytes: h.Bytes[:383], Class: h.Class}, {Bytes: h.Bytes, Class: h.Class[:5]}, reclassed(h, 5, 0), heapOf(0), heapOf(1, 0)} {
		if impl.SameHeap(h, other) || impl.SameHeap(other, h) {
			t.Error("other heaps are the same:", other)
		}
	}
	for at := range impl.ArenaLen {
		if impl.SameHeap(h, changed(h, at, 99)) {
			t.Errorf("byte %d does not count", at)
		}
	}
}

func TestHeapsArePure(t *testing.T) {
	shapeless, broken := badHeaps()
	heaps := pool(append(append(shapeless, broken...), heapOf(), heapOf(0, 1, 2), heapOf(2, 1, 0, 1, 2, 0))...)
	few := pool(heapOf(), heapOf(0, 1), impl.Heap{}, shapeless[3])
	pure(t, impl.HeapNew)
	pureOverAll(t, impl.HeapOk, heaps)
	pureOverAll(t, impl.Ungranted, heaps)
	pureOverAll(t, impl.Carved, heaps)
	pureOverAll(t, impl.ClassAt, heaps, pool(-1, 0, 23))
	pureOverAll(t, impl.GenIn, heaps, pool(-1, 0, 23))
	pureOverAll(t, impl.SetGen, heaps, pool(-1, 0, 2, 23), pool(0, 1, 7))
	pureOverAll(t, impl.Grant, heaps, pool(-1, 0, 1, 2, 3))
	pureOverAll(t, impl.SameHeap, few, few)
}
