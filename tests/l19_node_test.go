package tests

import (
	"math"
	"testing"

	"loop.example/g01538/impl"
)

func someNodes() (good []impl.Node, bad []impl.Node) {
	for _, key := range []int{0, 7, 99} {
		for _, val := range []int{0, 500, 65535} {
			for _, next := range []int{0, 32, 104, 215} {
				good = append(good, impl.Node{Key: key, Val: val, Next: next})
			}
		}
	}
	for _, x := range []int{math.MinInt, -1, 65536, math.MaxInt} {
		bad = append(bad, impl.Node{Key: x}, impl.Node{Val: x}, impl.Node{Next: x}, impl.Node{Key: 99, Val: x, Next: 36})
	}
	return good, append(bad, impl.Node{Key: 100}, impl.Node{Next: 1}, impl.Node{Next: 31}, impl.Node{Next: 56}, impl.Node{Next: 224}, impl.Node{Next: -36})
}

// everyHandle returns all numbers around those that are handles.
func everyHandle() []int {
	l := []int{math.MinInt, math.MinInt + 1, -36, math.MaxInt - 1, math.MaxInt}
	for h := -1; h <= 260; h++ {
		l = append(l, h)
	}
	return l
}

func TestNodeConstants(t *testing.T) {
	if impl.NodeLen != 16 || impl.NodeUsed != 10 || impl.MaxKey != 99 || impl.MaxVal != 65535 {
		t.Error("the constants are", impl.NodeLen, impl.NodeUsed, impl.MaxKey, impl.MaxVal)
	}
}

func TestNodeOk(t *testing.T) {
	good, bad := someNodes()
	for _, n := range good {
		if !impl.NodeOk(n) {
			t.Errorf("the node %+v is refused", n)
		}
	}
	for _, n := range bad {
		if impl.NodeOk(n) {
			t.Errorf("the node %+v is accepted", n)
		}
	}
	for _, h := range everyHandle() {
		if got := impl.NodeOk(impl.Node{Next: h}); got != (h == 0 || impl.HandleOk(h)) {
			t.Errorf("Next %d: NodeOk = %t", h, got)
		}
	}
}

// putNodeWant stores the fields of the node with StoreIn.
func putNodeWant(m impl.Mem, h int, n impl.Node) (impl.Mem, int) {
	if !impl.MemOk(m) || !impl.NodeOk(n) {
		return m, impl.CdArgs
	}
	next := m
	for _, x := range [][3]int{{6, 4, n.Next}, {2, 4, n.Val}, {0, 2, n.Key}} {
		var code int
		next, code = impl.StoreIn(next, h, x[0], x[1], x[2])
		if code != impl.CdOk {
			return m, code
		}
	}
	return next, impl.CdOk
}

// nodeAtWant loads the fields with RawLoad.
func nodeAtWant(m impl.Mem, h int) (impl.Node, int) {
	if !impl.MemOk(m) {
		return impl.Node{}, impl.CdArgs
	}
	b := impl.Base{Mem: m}
	if _, ok := impl.RawLoad(b, h, 0, 1); !ok {
		return impl.Node{}, impl.CdStale
	}
	key, _ := impl.RawLoad(b, h, 0, 2)
	val, _ := impl.RawLoad(b, h, 2, 4)
	next, ok := impl.RawLoad(b, h, 6, 4)
	if !ok {
		return impl.Node{}, impl.CdSize
	}
	return impl.Node{Key: key, Val: val, Next: next}, impl.CdOk
}

func nextToWant(m impl.Mem, h int, next int) (impl.Mem, int) {
	if !impl.MemOk(m) || next != 0 && !impl.HandleOk(next) {
		return m, impl.CdArgs
	}
	return impl.StoreIn(m, h, 6, 4, next)
}

func checkNodes(t *testing.T, m impl.Mem, h int, n impl.Node) {
	t.Helper()
	put, code := impl.NodePut(m, h, n)
	want, wantCode := putNodeWant(m, h, n)
	if !impl.SameMem(put, want) || code != wantCode {
		t.Errorf("NodePut of %+v into %d gives the code %d, want %d, and %v", n, h, code, wantCode, put)
	}
	node, code := impl.NodeAt(put, h)
	wantNode, wantCode := nodeAtWant(put, h)
	if node != wantNode || code != wantCode {
		t.Errorf("NodeAt of %d = %+v, %d, want %+v, %d", h, node, code, wantNode, wantCode)
	}
	linked, code := impl.NextTo(put, h, n.Key)
	want, wantCode = nextToWant(put, h, n.Key)
	if !impl.SameMem(linked, want) || code != wantCode {
		t.Errorf("NextTo of %d in %d gives the code %d, want %d, and %v", n.Key, h, code, wantCode, linked)
	}
}

func TestNodesOfEveryHandle(t *testing.T) {
	good, bad := someNodes()
	for _, m := range []impl.Mem{impl.MemNew(), someMem(t)} {
		for i, h := range everyHandle() {
			checkNodes(t, m, h, good[i%len(good)])
			checkNodes(t, m, h, bad[i%len(bad)])
		}
		for _, h := range []int{36, 104, 33, 68, 0} {
			for _, n := range append(good, bad...) {
				checkNodes(t, m, h, n)
			}
		}
		for _, next := range everyHandle() {
			for _, h := range []int{37, 104, 64, 69, 44, 0} {
				linked, code := impl.NextTo(m, h, next)
				want, wantCode := nextToWant(m, h, next)
				if !impl.SameMem(linked, want) || code != wantCode {
					t.Errorf("NextTo of %d in %d gives the code %d, want %d", next, h, code, wantCode)
				}
			}
		}
	}
}

func TestNodesOfInvalidMemories(t *testing.T) {
	for i, m := range badMems(t) {
		for _, h := range []int{0, 36, 104} {
			put, code := impl.NodePut(m, h, impl.Node{Key: 1})
			if !impl.SameMem(put, m) || code != impl.CdArgs {
				t.Errorf("NodePut into %d of the invalid memory %d has the code %d", h, i, code)
			}
			linked, code := impl.NextTo(m, h, 0)
			if !impl.SameMem(linked, m) || code != impl.CdArgs {
				t.Errorf("NextTo of %d in the invalid memory %d has the code %d", h, i, code)
			}
			if n, code := impl.NodeAt(m, h); n != (impl.Node{}) || code != impl.CdArgs {
				t.Errorf("NodeAt of %d in the invalid memory %d = %+v, %d", h, i, n, code)
			}
		}
	}
}

func TestOrderOfNodeCodes(t *testing.T) {
	m := someMem(t)
	for _, x := range []struct{ h, put, at, next int }{
		{36, impl.CdOk, impl.CdOk, impl.CdOk},
		{104, impl.CdOk, impl.CdOk, impl.CdOk},
		{33, impl.CdSize, impl.CdSize, impl.CdSize},
		// Another generation of a carved slot, which is too small for a node in the second case.
		{68, impl.CdStale, impl.CdOk, impl.CdStale},
		{65, impl.CdStale, impl.CdSize, impl.CdStale},
		// The slot 6 is not carved, the slot 16 has no page.
		{38, impl.CdStale, impl.CdStale, impl.CdStale},
		{48, impl.CdStale, impl.CdStale, impl.CdStale},
		{0, impl.CdStale, impl.CdStale, impl.CdStale},
		{-36, impl.CdStale, impl.CdStale, impl.CdStale},
	} {
		_, put := impl.NodePut(m, x.h, impl.Node{Key: 1})
		_, at := impl.NodeAt(m, x.h)
		_, next := impl.NextTo(m, x.h, 36)
		if put != x.put || at != x.at || next != x.next {
			t.Errorf("the codes of %d are %d, %d and %d, want %+v", x.h, put, at, next, x)
		}
		_, put = impl.NodePut(m, x.h, impl.Node{Key: 100})
		_, next = impl.NextTo(m, x.h, 31)
		if put != impl.CdArgs || next != impl.CdArgs {
			t.Errorf("with invalid arguments the codes of %d are %d and %d", x.h, put, next)
		}
	}
}

func TestNodeInAFreeSlot(t *testing.T) {
	n := impl.Node{Key: 98, Val: 60000, Next: 104}
	m, _ := impl.NodePut(someMem(t), 36, n)
	m = mustFree(t, m, 0, 36)
	for _, h := range []int{36, 68, 196} {
		if got, code := impl.NodeAt(m, h); got != n || code != impl.CdOk {
			t.Errorf("the node in the free slot of %d is %+v, %d", h, got, code)
		}
		if next, code := impl.NodePut(m, h, impl.Node{}); !impl.SameMem(next, m) || code != impl.CdStale {
			t.Errorf("a node is put into the free slot of %d: %d", h, code)
		}
		if next, code := impl.NextTo(m, h, 0); !impl.SameMem(next, m) || code != impl.CdStale {
			t.Errorf("the node in the free slot of %d gets a Next: %d", h, code)
		}
	}
	m = mustAlloc(t, m, 0, impl.NodeLen, 68)
	if got, code := impl.NodeAt(m, 36); got != n || code != impl.CdOk {
		t.Errorf("the node in the slot that is in use again is %+v, %d", got, code)
	}
	m, _ = impl.NodePut(m, 68, impl.Node{Key: 1})
	if got, code := impl.NodeAt(m, 36); got != (impl.Node{Key: 1}) || code != impl.CdOk {
		t.Errorf("the node of the next generation is %+v, %d", got, code)
	}
	// The slot 12 is used up.
	if _, code := impl.NodeAt(m, 44); code != impl.CdOk {
		t.Error("the node in a slot that is used up has the code", code)
	}
}

// What NodeAt returns need not be a valid node, as other contents may be stored in the slot.
func TestNodeOfOtherContents(t *testing.T) {
	m := someMem(t)
	for at := range impl.NodeUsed {
		m, _ = impl.StoreIn(m, 104, at, 1, 255-at)
	}
	m, _ = impl.StoreIn(m, 104, impl.NodeUsed, 7, 1<<55)
	want := impl.Node{Key: 255*256 + 254, Val: 253<<24 + 252<<16 + 251<<8 + 250, Next: 249<<24 + 248<<16 + 247<<8 + 246}
	if n, code := impl.NodeAt(m, 104); n != want || code != impl.CdOk || impl.NodeOk(n) {
		t.Errorf("NodeAt = %+v, %d, want %+v", n, code, want)
	}
	m, code := impl.NextTo(m, 104, 36)
	want.Next = 36
	if n, _ := impl.NodeAt(m, 104); n != want || code != impl.CdOk {
		t.Errorf("after NextTo NodeAt = %+v, want %+v", n, want)
	}
}

// TestNodesWalk checks promise 22: a node is what was put there, with the Next that was set last, whatever happens to others.
func TestNodesWalk(t *testing.T) {
	m := someMem(t)
	want := map[int]impl.Node{36: {}, 37: {}, 104: {}}
	for h := range want {
		m, _ = impl.NodePut(m, h, impl.Node{})
	}
	good, _ := someNodes()
	for step, y := range spread(2000, 1<<40) {
		h := []int{36, 37, 104}[y%3]
		n := good[y/3%len(good)]
		var code int
		if y/200%2 == 0 {
			m, code = impl.NodePut(m, h, n)
			want[h] = n
		} else {
			m, code = impl.NextTo(m, h, n.Next)
			want[h] = impl.Node{Key: want[h].Key, Val: want[h].Val, Next: n.Next}
		}
		if code != impl.CdOk || !impl.MemOk(m) {
			t.Fatalf("step %d has the code %d", step, code)
		}
		for h, n := range want {
			if got, code := impl.NodeAt(m, h); got != n || code != impl.CdOk {
				t.Fatalf("step %d: the node of %d is %+v, want %+v", step, h, got, n)
			}
		}
	}
}

func TestNodesArePure(t *testing.T) {
	good, bad := someNodes()
	mems := pool(append(everyNth(badMems(t), 9), someMem(t), impl.MemNew())...)
	handles := pool(0, 33, 36, 68, 104)
	pureOverAll(t, impl.NodePut, mems, handles, pool(good[5], bad[5]))
	pureOverAll(t, impl.NodeAt, mems, handles)
	pureOverAll(t, impl.NextTo, mems, handles, pool(0, 1, 37))
}
