package tests

import (
	"math"
	"testing"

	"loop.example/g01538/impl"
)

func TestHandleExamples(t *testing.T) {
	if impl.MaxGen != 6 {
		t.Error("MaxGen is", impl.MaxGen)
	}
	for _, x := range []struct{ slot, gen, h int }{
		{0, 1, 32}, {1, 1, 33}, {23, 1, 55}, {0, 2, 64}, {9, 2, 73}, {0, 6, 192}, {23, 6, 215},
	} {
		if h := impl.HandleOf(x.slot, x.gen); h != x.h || impl.HandleSlot(h) != x.slot || impl.HandleGen(h) != x.gen || !impl.HandleOk(h) {
			t.Errorf("slot %d and generation %d have the handle %d", x.slot, x.gen, h)
		}
	}
}

func TestHandleOfRefuses(t *testing.T) {
	for _, x := range append(manyInts(), -32, -24, 24, 31, 32, 56) {
		if x < 0 || x > 23 {
			for gen := 1; gen <= impl.MaxGen; gen++ {
				if h := impl.HandleOf(x, gen); h != 0 {
					t.Errorf("slot %d and generation %d have the handle %d", x, gen, h)
				}
			}
		}
		if x < 1 || x > 6 {
			for slot := range impl.SlotMax {
				if h := impl.HandleOf(slot, x); h != 0 {
					t.Errorf("slot %d and generation %d have the handle %d", slot, x, h)
				}
			}
		}
	}
	for _, gen := range []int{-1, 0, 7} {
		if h := impl.HandleOf(3, gen); h != 0 {
			t.Errorf("generation %d has the handle %d", gen, h)
		}
	}
}

// handlesWant returns the slot and the generation of every handle.
func handlesWant() map[int][2]int {
	want := map[int][2]int{}
	for slot := range 24 {
		for gen := 1; gen <= 6; gen++ {
			want[gen*32+slot] = [2]int{slot, gen}
		}
	}
	return want
}

func checkHandle(t *testing.T, h int, want map[int][2]int) {
	t.Helper()
	parts, is := want[h]
	if !is {
		parts = [2]int{-1, 0}
	}
	if impl.HandleOk(h) != is || impl.HandleSlot(h) != parts[0] || impl.HandleGen(h) != parts[1] {
		t.Errorf("%d: HandleOk %t, slot %d, generation %d", h, impl.HandleOk(h), impl.HandleSlot(h), impl.HandleGen(h))
	}
	later, laterOk := want[h+32]
	next, ok := impl.Later(h)
	if is && laterOk && later[0] == parts[0] {
		if next != h+32 || !ok {
			t.Errorf("Later(%d) = %d, %t", h, next, ok)
		}
	} else if next != 0 || ok {
		t.Errorf("Later(%d) = %d, %t", h, next, ok)
	}
}

func TestNoOtherNumbersAreHandles(t *testing.T) {
	want := handlesWant()
	if len(want) != 144 {
		t.Fatal("the model has", len(want), "handles")
	}
	for h := -1000; h <= 1000; h++ {
		checkHandle(t, h, want)
	}
	for _, h := range append(manyInts(), aroundPowers()...) {
		checkHandle(t, h, want)
		// Adding a power of two must not be lost in an overflow.
		for _, k := range []int{32, 33, 56, 58, 62, 63} {
			checkHandle(t, 73+1<<k, want)
		}
	}
}

func TestLastGeneration(t *testing.T) {
	for slot := range impl.SlotMax {
		h := impl.HandleOf(slot, 1)
		for gen := 2; gen <= impl.MaxGen; gen++ {
			next, ok := impl.Later(h)
			if !ok || next != impl.HandleOf(slot, gen) {
				t.Errorf("Later(%d) = %d, %t", h, next, ok)
			}
			h = next
		}
		if next, ok := impl.Later(h); next != 0 || ok {
			t.Errorf("Later of the last generation of slot %d = %d, %t", slot, next, ok)
		}
	}
	for _, h := range []int{0, 31, 56, 63, 224, math.MinInt, math.MaxInt} {
		if next, ok := impl.Later(h); next != 0 || ok {
			t.Errorf("Later(%d) = %d, %t", h, next, ok)
		}
	}
}
