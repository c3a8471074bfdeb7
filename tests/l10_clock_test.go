package tests

import (
	"math"
	"slices"
	"testing"

	"loop.example/g01538/impl"
)

func clockOf(epoch int, pins ...impl.Pin) impl.Clock {
	return impl.Clock{Epoch: epoch, Pins: pins}
}

func copyOfClock(c impl.Clock) impl.Clock {
	return impl.Clock{Epoch: c.Epoch, Pins: slices.Clone(c.Pins)}
}

// clocks returns valid and invalid clocks with pins of every kind in each place.
func clocks() []impl.Clock {
	pins := []impl.Pin{
		{}, {On: true}, {On: true, Epoch: 1}, {On: true, Epoch: 2}, {On: true, Epoch: impl.MaxEpoch},
		{On: true, Seen: 1}, {On: true, Seen: 2}, {On: true, Epoch: 1, Seen: 2},
		{On: true, Marked: true}, {On: true, Epoch: 1, Marked: true}, {On: true, Marked: true, Seen: 1}, {On: true, Marked: true, Seen: 2},
		{On: true, Epoch: -1}, {On: true, Epoch: impl.MaxEpoch + 1}, {On: true, Seen: 3}, {On: true, Seen: -1},
		{On: true, Marked: true, Seen: 3}, {On: true, Epoch: math.MinInt}, {On: true, Seen: math.MaxInt},
		{Epoch: 1}, {Marked: true}, {Seen: 1}, {Epoch: -1, Seen: -1},
	}
	others := [][]impl.Pin{{{}, {}}, {{On: true}, {}}, {{}, {On: true, Marked: true}}, {{On: true, Seen: 1}, {On: true}}}
	var l []impl.Clock
	for _, epoch := range []int{math.MinInt, -1, 0, 1, 2, 3, impl.MaxEpoch, impl.MaxEpoch + 1} {
		for _, pin := range pins {
			for _, other := range others {
				for w := range impl.Workers {
					l = append(l, clockOf(epoch, slices.Insert(slices.Clone(other), w, pin)...))
				}
			}
		}
		l = append(l, clockOf(epoch), clockOf(epoch, pins[:2]...), clockOf(epoch, pins[0], pins[0], pins[1], pins[0]))
	}
	return l
}

// everyNth returns the elements 0, n, 2n and so on of a list.
func everyNth[T any](l []T, n int) []T {
	var some []T
	for i := 0; i < len(l); i += n {
		some = append(some, l[i])
	}
	return some
}

// clockWant is the validity of a clock as the document describes it.
func clockWant(c impl.Clock) bool {
	ok := c.Epoch >= 0 && c.Epoch <= 100000 && len(c.Pins) == 3
	for _, p := range c.Pins {
		if p.On {
			ok = ok && 0 <= p.Epoch && p.Epoch <= c.Epoch && 0 <= p.Seen && p.Seen <= 2
		} else {
			ok = ok && p.Epoch == 0 && !p.Marked && p.Seen == 0
		}
	}
	return ok
}

var someWorkers = []int{math.MinInt, -1, 0, 1, 2, 3, math.MaxInt}

var someEpochs = []int{math.MinInt, -1, 0, 1, 2, 3, impl.MaxEpoch, impl.MaxEpoch + 1, math.MaxInt}

// isWorker reports whether a clock that clockWant accepts has a pin of w.
func isWorker(w int) bool {
	return w == 0 || w == 1 || w == 2
}

func TestClockConstants(t *testing.T) {
	if impl.MaxEpoch != 100000 || impl.MaxStall != 2 {
		t.Error("the constants are", impl.MaxEpoch, impl.MaxStall)
	}
}

func TestClockNew(t *testing.T) {
	c := impl.ClockNew()
	if c.Epoch != 0 || !slices.Equal(c.Pins, make([]impl.Pin, 3)) || !impl.ClockOk(c) {
		t.Error("ClockNew is", c)
	}
}

func TestClockOk(t *testing.T) {
	for _, c := range append(clocks(), impl.Clock{}) {
		if got := impl.ClockOk(c); got != clockWant(c) {
			t.Errorf("ClockOk(%v) = %t", c, got)
		}
	}
}

func TestPinTo(t *testing.T) {
	for _, c := range clocks() {
		for _, w := range someWorkers {
			for _, e := range someEpochs {
				want, ok := copyOfClock(c), false
				if clockWant(c) && isWorker(w) && e >= 0 && e <= c.Epoch {
					want.Pins[w], ok = impl.Pin{On: true, Epoch: e}, true
				}
				if got, is := impl.PinTo(c, w, e); is != ok || !impl.SameClock(got, want) {
					t.Fatalf("PinTo(%v, %d, %d) = %v, %t", c, w, e, got, is)
				}
			}
		}
	}
}

func TestUnpin(t *testing.T) {
	for _, c := range clocks() {
		for _, w := range someWorkers {
			want, ok := copyOfClock(c), false
			if clockWant(c) && isWorker(w) && c.Pins[w].On {
				want.Pins[w], ok = impl.Pin{}, true
			}
			if got, is := impl.Unpin(c, w); is != ok || !impl.SameClock(got, want) {
				t.Fatalf("Unpin(%v, %d) = %v, %t", c, w, got, is)
			}
		}
	}
}

func TestLookAt(t *testing.T) {
	for _, c := range clocks() {
		for _, w := range someWorkers {
			for _, e := range someEpochs {
				want, ok := copyOfClock(c), false
				if clockWant(c) && isWorker(w) {
					p := &want.Pins[w]
					switch {
					case !p.On || p.Marked || p.Epoch == e:
						ok = true
					case p.Seen == 2:
						*p, ok = impl.Pin{On: true, Epoch: p.Epoch, Marked: true}, true
					default:
						p.Seen++
					}
				}
				if got, is := impl.LookAt(c, w, e); is != ok || !impl.SameClock(got, want) {
					t.Fatalf("LookAt(%v, %d, %d) = %v, %t", c, w, e, got, is)
				}
			}
		}
	}
}

// A check that began in an earlier epoch than the pin's still counts: LookAt compares with the epoch of the check alone.
func TestStaleCheck(t *testing.T) {
	c := clockOf(2, impl.Pin{}, impl.Pin{On: true, Epoch: 2}, impl.Pin{On: true, Epoch: 1})
	for i, want := range []impl.Pin{
		{On: true, Epoch: 2, Seen: 1}, {On: true, Epoch: 2, Seen: 2}, {On: true, Epoch: 2, Marked: true}, {On: true, Epoch: 2, Marked: true},
	} {
		next, ok := impl.LookAt(c, 1, 1)
		if next.Pins[1] != want || ok != want.Marked {
			t.Fatalf("stale check %d: %v, %t", i, next.Pins[1], ok)
		}
		if next, ok := impl.LookAt(c, 2, 1); !ok || !impl.SameClock(next, c) {
			t.Errorf("the pin of the check's epoch delays it: %v", next)
		}
		c = next
	}
	// The advance that belongs to the stale check does not happen, and one of the present epoch does.
	if next, ok := impl.Bump(c, 1); ok || !impl.SameClock(next, c) {
		t.Error("a stale Bump increments the epoch:", next)
	}
	if next, ok := impl.Bump(c, 2); !ok || next.Epoch != 3 || !impl.ClockOk(next) {
		t.Error("Bump gives", next)
	}
}

func TestBump(t *testing.T) {
	for _, c := range clocks() {
		for _, e := range someEpochs {
			want, ok := copyOfClock(c), false
			if clockWant(c) && c.Epoch == e && e < 100000 {
				want.Epoch, ok = e+1, true
			}
			if got, is := impl.Bump(c, e); is != ok || !impl.SameClock(got, want) {
				t.Fatalf("Bump(%v, %d) = %v, %t", c, e, got, is)
			}
		}
	}
}

func TestBehindAndPinnedAt(t *testing.T) {
	for _, c := range clocks() {
		var behind []int
		for _, w := range someWorkers {
			epoch, on := 0, false
			if clockWant(c) && isWorker(w) && c.Pins[w].On && !c.Pins[w].Marked {
				epoch, on = c.Pins[w].Epoch, true
				if epoch < c.Epoch {
					behind = append(behind, w)
				}
			}
			if got, is := impl.PinnedAt(c, w); got != epoch || is != on {
				t.Fatalf("PinnedAt(%v, %d) = %d, %t", c, w, got, is)
			}
		}
		if got := impl.Behind(c); !slices.Equal(got, behind) {
			t.Fatalf("Behind(%v) = %v, want %v", c, got, behind)
		}
	}
}

func TestSameClock(t *testing.T) {
	pin := impl.Pin{On: true, Epoch: 3, Marked: true, Seen: 1}
	c := clockOf(4, impl.Pin{}, pin, impl.Pin{On: true})
	if !impl.SameClock(c, copyOfClock(c)) || !impl.SameClock(impl.Clock{}, impl.Clock{Pins: []impl.Pin{}}) {
		t.Error("equal clocks differ")
	}
	others := []impl.Clock{{}, {Epoch: 4}, clockOf(4, c.Pins[:2]...), clockOf(4, append(slices.Clone(c.Pins), impl.Pin{})...), clockOf(5, c.Pins...)}
	for w := range impl.Workers {
		for _, p := range []impl.Pin{
			{On: false, Epoch: 3, Marked: true, Seen: 1}, {On: true, Epoch: 2, Marked: true, Seen: 1},
			{On: true, Epoch: 3, Marked: false, Seen: 1}, {On: true, Epoch: 3, Marked: true, Seen: 2},
		} {
			other := copyOfClock(c)
			other.Pins[w] = p
			others = append(others, other)
		}
	}
	for _, other := range others {
		if impl.SameClock(c, other) || impl.SameClock(other, c) {
			t.Error("another clock is the same:", other)
		}
	}
}

// TestPinDelaysAtMostMaxStallChecks follows a pin from its epoch on (promise 11).
func TestPinDelaysAtMostMaxStallChecks(t *testing.T) {
	for w := range impl.Workers {
		c, _ := impl.Bump(impl.ClockNew(), 0)
		c, _ = impl.PinTo(c, w, 1)
		for range 10 {
			next, ok := impl.LookAt(c, w, 1)
			if !ok || !impl.SameClock(next, c) {
				t.Fatal("a pin of the current epoch delays the advance")
			}
		}
		c, _ = impl.Bump(c, 1)
		for i := range 10 {
			if behind := impl.Behind(c); (len(behind) == 1) != (i <= impl.MaxStall) {
				t.Fatalf("after %d checks the workers %v are behind", i, behind)
			}
			next, ok := impl.LookAt(c, w, c.Epoch)
			if ok != (i >= impl.MaxStall) || next.Pins[w].Marked != ok {
				t.Fatalf("check %d of an older pin gives %t and %v", i, ok, next)
			}
			c = next
			if ok {
				c, _ = impl.Bump(c, c.Epoch)
			}
		}
		if c.Epoch != 10 {
			t.Fatal("the marked pin delays the epoch", c.Epoch)
		}
	}
}

// TestClockWalk pins, unpins, checks and bumps in a fixed disorder and follows what each pin has seen.
func TestClockWalk(t *testing.T) {
	c := impl.ClockNew()
	var seen [impl.Workers]int
	for step, x := range spread(20000, 1<<30) {
		w, e := x%3, c.Epoch-x/3%3
		was := c.Pins[w]
		switch x / 9 % 6 {
		case 0:
			next, ok := impl.PinTo(c, w, e)
			if ok != (e >= 0) {
				t.Fatalf("step %d: PinTo of epoch %d is %t", step, e, ok)
			}
			if ok {
				seen[w] = 0
			}
			c = next
		case 1:
			next, ok := impl.Unpin(c, w)
			if ok != was.On {
				t.Fatalf("step %d: Unpin is %t", step, ok)
			}
			c = next
		case 2:
			next, ok := impl.Bump(c, e)
			if ok != (e == c.Epoch) {
				t.Fatalf("step %d: Bump of %d is %t", step, e, ok)
			}
			c = next
		default:
			next, ok := impl.LookAt(c, w, e)
			delays := was.On && was.Epoch != e
			if delays {
				seen[w]++
			}
			if ok != (!delays || seen[w] > impl.MaxStall) {
				t.Fatalf("step %d: LookAt of a pin checked %d times is %t", step, seen[w], ok)
			}
			c = next
		}
		if _, on := impl.PinnedAt(c, w); on != (c.Pins[w].On && seen[w] <= impl.MaxStall) || !impl.ClockOk(c) {
			t.Fatalf("step %d: the clock is %v", step, c)
		}
	}
	if c.Epoch < 100 {
		t.Error("the walk comes to epoch", c.Epoch)
	}
}

func TestClocksArePure(t *testing.T) {
	all := pool(append(everyNth(clocks(), 11), impl.Clock{}, impl.Clock{Pins: []impl.Pin{}}, clockOf(3, impl.Pin{On: true}, impl.Pin{On: true, Epoch: 3}, impl.Pin{}))...)
	workers, epochs := pool(-1, 0, 1, 2, 3), pool(-1, 0, 1, 3)
	pure(t, impl.ClockNew)
	pureOverAll(t, impl.ClockOk, all)
	pureOverAll(t, impl.PinTo, all, workers, epochs)
	pureOverAll(t, impl.Unpin, all, workers)
	pureOverAll(t, impl.LookAt, all, workers, epochs)
	pureOverAll(t, impl.Bump, all, epochs)
	pureOverAll(t, impl.Behind, all)
	pureOverAll(t, impl.PinnedAt, all, workers)
	few := pool(append(everyNth(clocks(), 200), impl.Clock{}, clockOf(3, impl.Pin{}, impl.Pin{}, impl.Pin{}))...)
	pureOverAll(t, impl.SameClock, few, few)
}
