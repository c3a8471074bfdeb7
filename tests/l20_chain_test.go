package tests

import (
	"math"
	"slices"
	"testing"

	"loop.example/g01538/impl"
)

// chained returns a memory whose handles hold these nodes. The handles are those of slots with 16 bytes, 2 in a page,
// from 32 on: 32, 33, 36, 37, 40, 41, 44, 45, 48, 49. The node i is put into handle i of them.
func chained(t *testing.T, nodes ...impl.Node) (impl.Mem, []int) {
	t.Helper()
	m := impl.MemNew()
	var handles []int
	for _, n := range nodes {
		next, h, code := impl.AllocNow(m, 0, impl.NodeLen)
		if code != impl.CdOk {
			t.Fatal("there is no slot:", code)
		}
		m, code = impl.NodePut(next, h, n)
		if code != impl.CdOk {
			t.Fatalf("there is no place for %+v: %d", n, code)
		}
		handles = append(handles, h)
	}
	return m, handles
}

// someChain returns the chain 37, 36, 33, 32 of the keys 8, 6, 4 and 4, and the node 40, which is in no chain.
func someChain(t *testing.T) impl.Mem {
	t.Helper()
	m, handles := chained(t, impl.Node{Key: 4, Val: 10}, impl.Node{Key: 4, Val: 11, Next: 32}, impl.Node{Key: 6, Val: 12, Next: 33},
		impl.Node{Key: 8, Val: 13, Next: 36}, impl.Node{Key: 2, Val: 14, Next: 33})
	if !slices.Equal(handles, []int{32, 33, 36, 37, 40}) {
		t.Fatal("the handles are", handles)
	}
	return m
}

// chainWant follows a chain for as many steps as there are slots.
func chainWant(m impl.Mem, head int) ([]int, bool) {
	if !impl.MemOk(m) {
		return nil, false
	}
	seen := map[int]bool{}
	var chain []int
	for h := head; h != 0; {
		n, code := impl.NodeAt(m, h)
		if seen[h] || code != impl.CdOk || !impl.Valid(m, h) || !impl.NodeOk(n) {
			return nil, false
		}
		seen[h] = true
		chain = append(chain, h)
		h = n.Next
	}
	return chain, true
}

func TestChainConstants(t *testing.T) {
	if impl.Bkts != 2 || impl.MaxVer != 1000000 {
		t.Error("the constants are", impl.Bkts, impl.MaxVer)
	}
}

func TestBktOf(t *testing.T) {
	for key := range 100 {
		if got := impl.BktOf(key); got != key%2 {
			t.Errorf("BktOf(%d) = %d", key, got)
		}
	}
	for _, key := range []int{math.MinInt, -2, -1, 100, 101, 200, math.MaxInt} {
		if got := impl.BktOf(key); got != -1 {
			t.Errorf("BktOf(%d) = %d", key, got)
		}
	}
}

func goodBkts() []impl.Bkt {
	return []impl.Bkt{{}, {Head: 32}, {Head: 215, Ver: 1000000, Lock: 3}, {Ver: 5, Lock: 1}, {Head: 37, Lock: 2}}
}

func badBkts() []impl.Bkt {
	bad := []impl.Bkt{{Head: 1}, {Head: 31}, {Head: 56}, {Head: 224}, {Head: -32}, {Ver: -1}, {Ver: 1000001}, {Lock: -1}, {Lock: 4}}
	for _, x := range []int{math.MinInt, math.MaxInt} {
		bad = append(bad, impl.Bkt{Head: x}, impl.Bkt{Ver: x}, impl.Bkt{Lock: x})
	}
	return bad
}

func TestBktOk(t *testing.T) {
	for _, b := range goodBkts() {
		if !impl.BktOk(b) {
			t.Errorf("the bucket %+v is refused", b)
		}
	}
	for _, b := range badBkts() {
		if impl.BktOk(b) {
			t.Errorf("the bucket %+v is accepted", b)
		}
	}
}

func checkChain(t *testing.T, m impl.Mem, head int, want []int, ok bool) {
	t.Helper()
	if got, is := impl.ChainOf(m, head); !slices.Equal(got, want) || is != ok {
		t.Errorf("ChainOf %d = %v, %t, want %v, %t", head, got, is, want, ok)
	}
	var pairs []impl.KV
	for _, h := range want {
		n, _ := impl.NodeAt(m, h)
		pairs = append(pairs, impl.KV{Key: n.Key, Val: n.Val})
	}
	if got := impl.PairsOf(m, head); !slices.Equal(got, pairs) {
		t.Errorf("PairsOf %d = %v, want %v", head, got, pairs)
	}
	for key := -1; key <= 100; key++ {
		h, prev := 0, 0
		if i := slices.IndexFunc(pairs, func(pair impl.KV) bool { return pair.Key == key }); i >= 0 {
			h = want[i]
			if i > 0 {
				prev = want[i-1]
			}
		}
		if gotH, gotPrev := impl.Seek(m, head, key); gotH != h || gotPrev != prev {
			t.Errorf("Seek of %d from %d = %d, %d, want %d, %d", key, head, gotH, gotPrev, h, prev)
		}
	}
}

func TestChains(t *testing.T) {
	m := someChain(t)
	checkChain(t, m, 0, nil, true)
	checkChain(t, m, 32, []int{32}, true)
	checkChain(t, m, 33, []int{33, 32}, true)
	checkChain(t, m, 37, []int{37, 36, 33, 32}, true)
	checkChain(t, m, 40, []int{40, 33, 32}, true)
	for _, h := range everyHandle() {
		want, ok := chainWant(m, h)
		checkChain(t, m, h, want, ok)
	}
	// The first of two nodes with one key is found, and the one before it.
	if h, prev := impl.Seek(m, 37, 4); h != 33 || prev != 36 {
		t.Error("Seek =", h, prev)
	}
}

// brokenChains returns memories in which the chain from 37 on does not exist for one reason each.
func brokenChains(t *testing.T) []impl.Mem {
	var l []impl.Mem
	with := func(h int, at int, width int, x int) {
		m, code := impl.StoreIn(someChain(t), h, at, width, x)
		if code != impl.CdOk {
			t.Fatal("nothing is stored:", code)
		}
		l = append(l, m)
	}
	for _, h := range []int{37, 36, 33, 32} {
		with(h, 0, 2, 100)
		with(h, 2, 4, 65536)
		with(h, 6, 4, 1)
		with(h, 6, 4, h)
		with(h, 6, 4, 37)
		with(h, 6, 4, 48)
		with(h, 6, 4, 72)
		l = append(l, mustFree(t, someChain(t), 0, h))
	}
	small := mustAlloc(t, someChain(t), 0, 8, 44)
	small, _ = impl.NextTo(small, 32, 44)
	return append(l, small)
}

func TestBrokenChains(t *testing.T) {
	for i, m := range brokenChains(t) {
		checkChain(t, m, 37, nil, false)
		want, ok := chainWant(m, 40)
		checkChain(t, m, 40, want, ok)
		for _, h := range []int{0, 32, 37, 40} {
			refusesLink(t, m, impl.Bkt{Head: 37, Ver: 3}, h)
			refusesUnlink(t, m, impl.Bkt{Head: 37, Ver: 3}, h)
		}
		if t.Failed() {
			t.Fatal("this is the broken chain", i)
		}
	}
	for _, m := range badMems(t) {
		for _, head := range []int{0, 36, 104} {
			checkChain(t, m, head, nil, false)
			refusesLink(t, m, impl.Bkt{Head: head}, 37)
			refusesUnlink(t, m, impl.Bkt{Head: head}, head)
		}
	}
}

func refusesLink(t *testing.T, m impl.Mem, b impl.Bkt, h int) {
	t.Helper()
	if next, c, ok := impl.LinkIn(m, b, h); ok || c != b || !impl.SameMem(next, m) {
		t.Errorf("LinkIn of %d and %+v = %t, %+v", h, b, ok, c)
	}
}

func refusesUnlink(t *testing.T, m impl.Mem, b impl.Bkt, h int) {
	t.Helper()
	if next, c, ok := impl.Unlink(m, b, h); ok || c != b || !impl.SameMem(next, m) {
		t.Errorf("Unlink of %d and %+v = %t, %+v", h, b, ok, c)
	}
}

func TestLinkIn(t *testing.T) {
	m := someChain(t)
	for _, head := range []int{0, 32, 33, 36, 37} {
		for _, b := range []impl.Bkt{{Head: head}, {Head: head, Ver: 1000000, Lock: 3}} {
			next, c, ok := impl.LinkIn(m, b, 40)
			want, _ := impl.NextTo(m, 40, head)
			if !ok || c != (impl.Bkt{Head: 40, Ver: b.Ver, Lock: b.Lock}) || !impl.SameMem(next, want) {
				t.Errorf("LinkIn of 40 and %+v = %t, %+v", b, ok, c)
			}
		}
	}
	// All handles that are in the chain, or hold no node.
	chain := []int{37, 36, 33, 32}
	for i, head := range chain {
		for _, h := range everyHandle() {
			if h != 40 && !slices.Contains(chain[:i], h) {
				refusesLink(t, m, impl.Bkt{Head: head}, h)
			}
		}
	}
	for _, b := range badBkts() {
		refusesLink(t, m, b, 40)
	}
	small := mustAlloc(t, m, 0, 8, 44)
	refusesLink(t, small, impl.Bkt{Head: 37}, 44)
}

// The node that is linked in must be valid, but its Next, which is stored first, need not have been so.
func TestLinkInOfAnInvalidNode(t *testing.T) {
	for _, x := range []struct {
		at, width, n int
		ok           bool
	}{{0, 2, 100, false}, {0, 2, 99, true}, {2, 4, 65536, false}, {2, 4, 65535, true}, {6, 4, 31, true}, {6, 4, 40, true}} {
		m, _ := impl.StoreIn(someChain(t), 40, x.at, x.width, x.n)
		if x.ok {
			next, c, ok := impl.LinkIn(m, impl.Bkt{Head: 37}, 40)
			if chain, is := impl.ChainOf(next, c.Head); !ok || !is || !slices.Equal(chain, []int{40, 37, 36, 33, 32}) {
				t.Errorf("with %+v the chain is %v", x, chain)
			}
			continue
		}
		refusesLink(t, m, impl.Bkt{Head: 37}, 40)
		refusesLink(t, m, impl.Bkt{}, 40)
	}
}

func TestUnlink(t *testing.T) {
	m := someChain(t)
	chain := []int{37, 36, 33, 32}
	for i, h := range chain {
		for _, b := range []impl.Bkt{{Head: 37}, {Head: 37, Ver: 1000000, Lock: 3}} {
			next, c, ok := impl.Unlink(m, b, h)
			after := append(slices.Clone(chain), 0)[i+1]
			want, head := m, after
			if i > 0 {
				want, _ = impl.NextTo(m, chain[i-1], after)
				head = 37
			}
			if !ok || c != (impl.Bkt{Head: head, Ver: b.Ver, Lock: b.Lock}) || !impl.SameMem(next, want) {
				t.Errorf("Unlink of %d = %t, %+v", h, ok, c)
			}
			checkChain(t, next, c.Head, slices.Delete(slices.Clone(chain), i, i+1), true)
		}
	}
	for _, h := range everyHandle() {
		if !slices.Contains(chain, h) {
			refusesUnlink(t, m, impl.Bkt{Head: 37}, h)
		}
		refusesUnlink(t, m, impl.Bkt{}, h)
	}
	refusesUnlink(t, m, impl.Bkt{Head: 36}, 37)
	for _, b := range badBkts() {
		refusesUnlink(t, m, b, 37)
		b.Head = 37
		if !impl.BktOk(b) {
			refusesUnlink(t, m, b, 37)
			refusesLink(t, m, b, 40)
		}
	}
}

// The first and the last node of a chain, up to a chain of one node.
func TestFirstAndLastNode(t *testing.T) {
	m := someChain(t)
	b := impl.Bkt{Head: 37, Ver: 7, Lock: 2}
	for chain := []int{37, 36, 33, 32}; len(chain) > 0; chain = chain[1:] {
		for last := len(chain) - 1; last >= 0; last-- {
			next, c, ok := impl.Unlink(m, impl.Bkt{Head: chain[0]}, chain[last])
			if !ok {
				t.Fatalf("the last node of %v is not removed", chain)
			}
			checkChain(t, next, c.Head, slices.Delete(slices.Clone(chain), last, last+1), true)
		}
		next, c, ok := impl.Unlink(m, b, chain[0])
		// Nothing is stored in the node, so what comes after it is still found from there.
		if n, _ := impl.NodeAt(next, chain[0]); !ok || len(chain) > 1 && n.Next != chain[1] || c.Ver != 7 || c.Lock != 2 {
			t.Fatalf("the first node of %v is not removed: %+v", chain, c)
		}
		m, b = next, c
		checkChain(t, m, b.Head, chain[1:], true)
	}
	for _, h := range []int{32, 37} {
		var ok bool
		m, b, ok = impl.LinkIn(m, b, h)
		if !ok {
			t.Fatalf("%d is not linked in", h)
		}
	}
	checkChain(t, m, b.Head, []int{37, 32}, true)
}

// TestChainsWalk checks promise 23: what LinkIn and Unlink do to a list of handles.
func TestChainsWalk(t *testing.T) {
	var nodes []impl.Node
	for i := range 10 {
		nodes = append(nodes, impl.Node{Key: i / 2, Val: i})
	}
	m, handles := chained(t, nodes...)
	var want [2][]int
	b := []impl.Bkt{{Ver: 1}, {Ver: 2, Lock: 3}}
	for step, y := range spread(1500, 1<<40) {
		k, h := y%2, handles[y/2%10]
		var ok bool
		if linked := slices.Contains(want[k], h); y/20%2 == 0 && !slices.Contains(want[1-k], h) {
			m, b[k], ok = impl.LinkIn(m, b[k], h)
			if ok == linked {
				t.Fatalf("step %d: LinkIn of %d into %v = %t", step, h, want[k], ok)
			}
			if ok {
				want[k] = append([]int{h}, want[k]...)
			}
		} else {
			m, b[k], ok = impl.Unlink(m, b[k], h)
			if ok != linked {
				t.Fatalf("step %d: Unlink of %d from %v = %t", step, h, want[k], ok)
			}
			want[k] = slices.DeleteFunc(want[k], func(x int) bool { return x == h })
		}
		for k := range b {
			if chain, ok := impl.ChainOf(m, b[k].Head); !ok || !slices.Equal(chain, want[k]) || b[k].Ver != 1+k || b[k].Lock != 3*k {
				t.Fatalf("step %d: the bucket is %+v with the chain %v, want %v", step, b[k], chain, want[k])
			}
		}
		if step%30 == 0 {
			checkChain(t, m, b[k].Head, want[k], true)
		}
	}
}

func TestChainsArePure(t *testing.T) {
	mems := pool(append(everyNth(badMems(t), 9), someChain(t), brokenChains(t)[0], impl.MemNew())...)
	heads := pool(0, 32, 37, 40, 31)
	buckets := pool(impl.Bkt{}, impl.Bkt{Head: 37, Ver: 1}, impl.Bkt{Head: 32}, impl.Bkt{Head: 37, Ver: -1})
	pureOverAll(t, impl.ChainOf, mems, heads)
	pureOverAll(t, impl.PairsOf, mems, heads)
	pureOverAll(t, impl.Seek, mems, heads, pool(4, 5))
	pureOverAll(t, impl.LinkIn, mems, buckets, heads)
	pureOverAll(t, impl.Unlink, mems, buckets, heads)
}
