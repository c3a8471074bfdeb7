package tests

import (
	"testing"

	"loop.example/g01538/impl"
)

func TestClassConstants(t *testing.T) {
	if impl.Classes != 3 || impl.PageLen != 64 || impl.HeadLen != 8 || impl.GenLen != 4 {
		t.Error("the constants are", impl.Classes, impl.PageLen, impl.HeadLen, impl.GenLen)
	}
}

func TestClassExamples(t *testing.T) {
	for _, x := range []struct{ c, size, stride, per int }{
		{0, 8, 12, 4}, {1, 16, 20, 2}, {2, 40, 44, 1}, {-1, 0, 0, 0}, {-2, 0, 0, 0}, {3, 0, 0, 0}, {4, 0, 0, 0},
	} {
		if impl.SizeOf(x.c) != x.size || impl.StrideOf(x.c) != x.stride || impl.PerPage(x.c) != x.per {
			t.Errorf("class %d has size %d, stride %d and %d slots per page", x.c, impl.SizeOf(x.c), impl.StrideOf(x.c), impl.PerPage(x.c))
		}
	}
	for _, c := range manyInts() {
		if impl.SizeOf(c) != 0 || impl.StrideOf(c) != 0 || impl.PerPage(c) != 0 {
			t.Errorf("there is no class %d", c)
		}
	}
}

func TestClassOfExamples(t *testing.T) {
	for _, x := range []struct{ size, c, waste int }{
		{1, 0, 7}, {2, 0, 6}, {7, 0, 1}, {8, 0, 0}, {9, 1, 7}, {15, 1, 1}, {16, 1, 0}, {17, 2, 23}, {39, 2, 1}, {40, 2, 0},
		{0, -1, -1}, {-1, -1, -1}, {-8, -1, -1}, {41, -1, -1}, {64, -1, -1}, {100, -1, -1},
	} {
		if c, waste := impl.ClassOf(x.size), impl.Waste(x.size); c != x.c || waste != x.waste {
			t.Errorf("size %d has class %d and waste %d, want %d and %d", x.size, c, waste, x.c, x.waste)
		}
	}
	for _, size := range manyInts() {
		if size >= 1 && size <= 40 {
			continue
		}
		if c, waste := impl.ClassOf(size), impl.Waste(size); c != -1 || waste != -1 {
			t.Errorf("size %d has class %d and waste %d", size, c, waste)
		}
	}
}

func TestClassOfIsTheSmallestThatSuffices(t *testing.T) {
	for size := -50; size <= 100; size++ {
		want := -1
		for c := impl.Classes - 1; c >= 0; c-- {
			if size >= 1 && impl.SizeOf(c) >= size {
				want = c
			}
		}
		waste := -1
		if want >= 0 {
			waste = impl.SizeOf(want) - size
		}
		if impl.ClassOf(size) != want || impl.Waste(size) != waste {
			t.Errorf("size %d has class %d and waste %d, want %d and %d", size, impl.ClassOf(size), impl.Waste(size), want, waste)
		}
	}
}

func TestSizeThatFillsItsClass(t *testing.T) {
	for c := range impl.Classes {
		size := impl.SizeOf(c)
		if impl.ClassOf(size) != c || impl.Waste(size) != 0 {
			t.Errorf("size %d does not fill class %d", size, c)
		}
		if next := impl.ClassOf(size + 1); next == c {
			t.Errorf("size %d does not fit into class %d", size+1, c)
		}
	}
}

func TestPerPageFitsButNotMore(t *testing.T) {
	for c := range impl.Classes {
		left := impl.PageLen - impl.HeadLen - impl.PerPage(c)*impl.StrideOf(c)
		if left < 0 || left >= impl.StrideOf(c) {
			t.Errorf("%d slots of class %d leave %d bytes of a page", impl.PerPage(c), c, left)
		}
		if impl.StrideOf(c) != impl.GenLen+impl.SizeOf(c) {
			t.Errorf("class %d has stride %d", c, impl.StrideOf(c))
		}
	}
}
