package tests

import (
	"math"
	"testing"

	"loop.example/g01538/impl"
)

func TestPlaceConstants(t *testing.T) {
	if impl.Pages != 6 || impl.MostPer != 4 || impl.SlotMax != 24 || impl.ArenaLen != 384 {
		t.Error("the constants are", impl.Pages, impl.MostPer, impl.SlotMax, impl.ArenaLen)
	}
}

func TestSlotExamples(t *testing.T) {
	for _, x := range []struct{ slot, page, index int }{{0, 0, 0}, {3, 0, 3}, {4, 1, 0}, {9, 2, 1}, {20, 5, 0}, {23, 5, 3}} {
		if impl.PageOf(x.slot) != x.page || impl.IndexOf(x.slot) != x.index || impl.SlotAt(x.page, x.index) != x.slot {
			t.Errorf("slot %d has page %d and index %d", x.slot, impl.PageOf(x.slot), impl.IndexOf(x.slot))
		}
	}
}

func TestSlotsArePagesAndIndices(t *testing.T) {
	seen := map[int]bool{}
	for page := -3; page <= impl.Pages+3; page++ {
		for index := -3; index <= impl.MostPer+3; index++ {
			slot := impl.SlotAt(page, index)
			if page < 0 || page > 5 || index < 0 || index > 3 {
				if slot != -1 {
					t.Errorf("page %d and index %d give slot %d", page, index, slot)
				}
				continue
			}
			if slot < 0 || slot > 23 || seen[slot] || impl.PageOf(slot) != page || impl.IndexOf(slot) != index {
				t.Errorf("page %d and index %d give slot %d", page, index, slot)
			}
			seen[slot] = true
		}
	}
}

func TestNoSuchSlot(t *testing.T) {
	for _, slot := range append(manyInts(), -24, -4, -3, 24, 25, 28) {
		if slot >= 0 && slot < impl.SlotMax {
			continue
		}
		if impl.PageOf(slot) != -1 || impl.IndexOf(slot) != -1 {
			t.Errorf("slot %d has page %d and index %d", slot, impl.PageOf(slot), impl.IndexOf(slot))
		}
		for c := range impl.Classes {
			checkNowhere(t, slot, c)
		}
	}
	for _, x := range []int{math.MinInt, -1, 6, 1 << 62, math.MaxInt} {
		if impl.SlotAt(x, 0) != -1 || impl.SlotAt(0, x) != -1 || impl.SlotAt(x, x) != -1 {
			t.Errorf("%d is a page or an index", x)
		}
	}
}

func checkNowhere(t *testing.T, slot int, c int) {
	t.Helper()
	if impl.GenAt(slot, c) != -1 || impl.StartOf(slot, c) != -1 || impl.RangeOf(slot, c) != (impl.Span{}) {
		t.Errorf("slot %d of class %d has a place: %d, %d, %v", slot, c, impl.GenAt(slot, c), impl.StartOf(slot, c), impl.RangeOf(slot, c))
	}
}

func TestPlaceExamples(t *testing.T) {
	for _, x := range []struct {
		slot, c, gen, start int
		span                impl.Span
	}{
		{0, 0, 8, 12, impl.Span{From: 12, To: 20}},
		{0, 1, 8, 12, impl.Span{From: 12, To: 28}},
		{0, 2, 8, 12, impl.Span{From: 12, To: 52}},
		{1, 0, 20, 24, impl.Span{From: 24, To: 32}},
		{1, 1, 28, 32, impl.Span{From: 32, To: 48}},
		{3, 0, 44, 48, impl.Span{From: 48, To: 56}},
		{9, 0, 148, 152, impl.Span{From: 152, To: 160}},
		{20, 2, 328, 332, impl.Span{From: 332, To: 372}},
		{21, 1, 348, 352, impl.Span{From: 352, To: 368}},
		{23, 0, 364, 368, impl.Span{From: 368, To: 376}},
	} {
		if impl.GenAt(x.slot, x.c) != x.gen || impl.StartOf(x.slot, x.c) != x.start || impl.RangeOf(x.slot, x.c) != x.span {
			t.Errorf("slot %d of class %d is at %d, %d, %v", x.slot, x.c, impl.GenAt(x.slot, x.c), impl.StartOf(x.slot, x.c), impl.RangeOf(x.slot, x.c))
		}
	}
}

func TestLastSlotOfAPage(t *testing.T) {
	for c := range impl.Classes {
		for page := range impl.Pages {
			last := impl.SlotAt(page, impl.PerPage(c)-1)
			end := (page + 1) * impl.PageLen
			if span := impl.RangeOf(last, c); impl.GenAt(last, c) == -1 || span.To > end || span.To+impl.StrideOf(c) <= end {
				t.Errorf("the last slot of page %d and class %d has the range %v", page, c, span)
			}
			for index := impl.PerPage(c); index < impl.MostPer; index++ {
				checkNowhere(t, impl.SlotAt(page, index), c)
			}
		}
	}
}

func TestNoSuchClass(t *testing.T) {
	for slot := range impl.SlotMax {
		for _, c := range []int{math.MinInt, -2, -1, 3, 4, math.MaxInt} {
			checkNowhere(t, slot, c)
		}
	}
}

// TestRangesAreDisjoint marks what each range, generation and header of a page uses.
func TestRangesAreDisjoint(t *testing.T) {
	for c := range impl.Classes {
		for page := range impl.Pages {
			var used [impl.ArenaLen]bool
			mark(t, &used, impl.Span{From: page * impl.PageLen, To: page*impl.PageLen + impl.HeadLen})
			for index := range impl.PerPage(c) {
				slot := impl.SlotAt(page, index)
				at := impl.GenAt(slot, c)
				mark(t, &used, impl.Span{From: at, To: at + impl.GenLen})
				mark(t, &used, impl.RangeOf(slot, c))
			}
			for i, is := range used {
				if is && i/impl.PageLen != page {
					t.Errorf("page %d uses byte %d", page, i)
				}
			}
		}
	}
}

func mark(t *testing.T, used *[impl.ArenaLen]bool, s impl.Span) {
	t.Helper()
	if s.From >= s.To {
		t.Errorf("the range %v is empty", s)
	}
	for i := s.From; i < s.To; i++ {
		if used[i] {
			t.Errorf("byte %d of the range %v is used twice", i, s)
		}
		used[i] = true
	}
}

func TestApart(t *testing.T) {
	for a := range 9 * 9 {
		for b := range 9 * 9 {
			x := impl.Span{From: a/9 - 4, To: a%9 - 4}
			y := impl.Span{From: b/9 - 4, To: b%9 - 4}
			want := true
			for i := -5; i <= 5; i++ {
				want = want && !(i >= x.From && i < x.To && i >= y.From && i < y.To)
			}
			if impl.Apart(x, y) != want {
				t.Errorf("Apart(%v, %v) is not %t", x, y, want)
			}
		}
	}
}

func TestApartOfLongSpans(t *testing.T) {
	all := impl.Span{From: math.MinInt, To: math.MaxInt}
	none := impl.Span{From: math.MaxInt, To: math.MinInt}
	low := impl.Span{From: math.MinInt, To: 0}
	high := impl.Span{From: 0, To: math.MaxInt}
	if impl.Apart(all, all) || impl.Apart(all, low) || impl.Apart(high, all) || impl.Apart(high, high) {
		t.Error("long spans that overlap are apart")
	}
	if !impl.Apart(low, high) || !impl.Apart(high, low) || !impl.Apart(all, none) || !impl.Apart(none, none) || !impl.Apart(all, impl.Span{}) {
		t.Error("long spans that do not overlap are not apart")
	}
}
