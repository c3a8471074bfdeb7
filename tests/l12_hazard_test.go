package tests

import (
	"math"
	"slices"
	"testing"

	"loop.example/g01538/impl"
)

// hazards returns valid hazard pointers; 33, 65 and 194 are handles of the slots 1, 1 and 2.
func hazards() [][]int {
	var l [][]int
	some := []int{0, 33, 65, 194, 215}
	for _, a := range some {
		for _, b := range some {
			for _, c := range some {
				l = append(l, []int{a, b, c})
			}
		}
	}
	return l
}

func badHazards() [][]int {
	l := [][]int{nil, {}, {0}, {33, 34}, {0, 0, 0, 0}, {33, 34, 35, 36}}
	for _, h := range []int{math.MinInt, -33, -1, 1, 23, 31, 56, 63, 216, 224, 256, math.MaxInt} {
		l = append(l, []int{h, 0, 33}, []int{33, h, 0}, []int{0, 33, h})
	}
	return l
}

func TestHazNew(t *testing.T) {
	if z := impl.HazNew(); !slices.Equal(z, []int{0, 0, 0}) || !impl.HazOk(z) {
		t.Error("HazNew is", z)
	}
}

func TestHazOk(t *testing.T) {
	for _, z := range hazards() {
		if !impl.HazOk(z) {
			t.Error("valid hazard pointers are refused:", z)
		}
	}
	for _, z := range badHazards() {
		if impl.HazOk(z) {
			t.Error("invalid hazard pointers are accepted:", z)
		}
	}
	for h := -300; h <= 300; h++ {
		if got := impl.HazOk([]int{0, h, 0}); got != (h == 0 || impl.HandleOk(h)) {
			t.Errorf("HazOk with %d is %t", h, got)
		}
	}
}

func TestPublish(t *testing.T) {
	for _, z := range append(hazards(), badHazards()...) {
		for _, w := range someWorkers {
			for _, h := range []int{math.MinInt, -1, 0, 1, 31, 32, 33, 55, 56, 70, 215, 216, 224, math.MaxInt} {
				want, ok := slices.Clone(z), impl.HazOk(z) && isWorker(w) && impl.HandleOk(h)
				if ok {
					want[w] = h
				}
				if got, is := impl.Publish(z, w, h); is != ok || !slices.Equal(got, want) {
					t.Fatalf("Publish(%v, %d, %d) = %v, %t", z, w, h, got, is)
				}
			}
		}
	}
}

func TestClear(t *testing.T) {
	for _, z := range append(hazards(), badHazards()...) {
		for _, w := range someWorkers {
			want, ok := slices.Clone(z), impl.HazOk(z) && isWorker(w) && z[w] != 0
			if ok {
				want[w] = 0
			}
			if got, is := impl.Clear(z, w); is != ok || !slices.Equal(got, want) {
				t.Fatalf("Clear(%v, %d) = %v, %t", z, w, got, is)
			}
		}
	}
}

func TestHeldByAndHazAt(t *testing.T) {
	for _, z := range append(hazards(), badHazards()...) {
		for _, w := range someWorkers {
			want := 0
			if impl.HazOk(z) && isWorker(w) {
				want = z[w]
			}
			if got := impl.HazAt(z, w); got != want {
				t.Fatalf("HazAt(%v, %d) = %d", z, w, got)
			}
		}
		for _, h := range []int{math.MinInt, -33, -1, 0, 1, 31, 32, 33, 65, 194, 215, 224, math.MaxInt} {
			var want []int
			for w, held := range z {
				if impl.HazOk(z) && h != 0 && held == h {
					want = append(want, w)
				}
			}
			if got := impl.HeldBy(z, h); !slices.Equal(got, want) {
				t.Fatalf("HeldBy(%v, %d) = %v", z, h, got)
			}
		}
	}
}

// A hazard pointer that is published after the check whether anyone holds the handle comes too late:
// it is accepted and held, even if the handle is not Valid any more, but does not bring the slot back.
func TestHazardPublishedTooLate(t *testing.T) {
	m := mustAlloc(t, impl.MemNew(), 0, 8, 32)
	z := impl.HazNew()
	if len(impl.HeldBy(z, 32)) != 0 {
		t.Fatal("nobody has published the handle")
	}
	m = mustFree(t, m, 0, 32)
	z, ok := impl.Publish(z, 1, 32)
	if !ok || !slices.Equal(impl.HeldBy(z, 32), []int{1}) || impl.HazAt(z, 1) != 32 || !impl.HazOk(z) {
		t.Error("the late hazard pointer is", z, ok)
	}
	stale(t, m, 32)
	m = mustAlloc(t, m, 0, 8, 64)
	if len(impl.HeldBy(z, 64)) != 0 || !impl.Valid(m, 64) {
		t.Error("the late hazard pointer holds the next handle of the slot")
	}
	if z, ok = impl.Clear(z, 1); !ok || !slices.Equal(z, impl.HazNew()) {
		t.Error("after Clear the hazard pointers are", z)
	}
}

// TestHazardWalk publishes and clears in a fixed disorder: what a worker publishes is held until it clears it (promise 13).
func TestHazardWalk(t *testing.T) {
	z := impl.HazNew()
	var held [impl.Workers]int
	for step, x := range spread(3000, 1<<30) {
		w, h := x%3, 20+x/3%200
		if x/1000%3 == 0 {
			next, ok := impl.Clear(z, w)
			if ok != (held[w] != 0) {
				t.Fatalf("step %d: Clear is %t", step, ok)
			}
			held[w], z = 0, next
		} else {
			next, ok := impl.Publish(z, w, h)
			if ok != impl.HandleOk(h) {
				t.Fatalf("step %d: Publish of %d is %t", step, h, ok)
			}
			if ok {
				held[w] = h
			}
			z = next
		}
		if !slices.Equal(z, held[:]) || !impl.HazOk(z) {
			t.Fatalf("step %d: the hazard pointers are %v, want %v", step, z, held)
		}
		for w, h := range held {
			if impl.HazAt(z, w) != h || slices.Contains(impl.HeldBy(z, h), w) != (h != 0) {
				t.Fatalf("step %d: worker %d holds %d", step, w, impl.HazAt(z, w))
			}
		}
	}
}

func TestHazardsArePure(t *testing.T) {
	all := pool(append(badHazards(), everyNth(hazards(), 7)...)...)
	workers, handles := pool(-1, 0, 1, 2, 3), pool(-1, 0, 1, 33, 215)
	pure(t, impl.HazNew)
	pureOverAll(t, impl.HazOk, all)
	pureOverAll(t, impl.Publish, all, workers, handles)
	pureOverAll(t, impl.Clear, all, workers)
	pureOverAll(t, impl.HeldBy, all, handles)
	pureOverAll(t, impl.HazAt, all, workers)
}
