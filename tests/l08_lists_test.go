package tests

import (
	"math"
	"slices"
	"testing"

	"loop.example/g01538/impl"
)

// listsOf returns lists with these slots; global has the list of each class, own those of each worker and class.
func listsOf(global [][]int, own [][]int) impl.Lists {
	l := impl.Lists{Global: make([]impl.SList, len(global)), Own: make([]impl.SList, len(own))}
	for i, slots := range global {
		l.Global[i].Slots = slots
	}
	for i, slots := range own {
		l.Own[i].Slots = slots
	}
	return l
}

// someLists returns valid lists with full, half full and empty local lists.
func someLists() impl.Lists {
	return listsOf([][]int{{7, 20, 3}, {}, {8}}, [][]int{{0, 1}, {4}, {}, {}, {}, {16}, {2}, {9, 5}, {12, 23}})
}

func copyOfLists(l impl.Lists) impl.Lists {
	next := impl.Lists{}
	for _, list := range l.Global {
		next.Global = append(next.Global, impl.SList{Slots: slices.Clone(list.Slots)})
	}
	for _, list := range l.Own {
		next.Own = append(next.Own, impl.SList{Slots: slices.Clone(list.Slots)})
	}
	return next
}

func badLists() []impl.Lists {
	good := someLists()
	bad := []impl.Lists{
		{}, {Global: good.Global}, {Own: good.Own},
		{Global: good.Global[:2], Own: good.Own}, {Global: good.Global, Own: good.Own[:8]},
		{Global: append(slices.Clone(good.Global), impl.SList{}), Own: good.Own},
		{Global: good.Global, Own: append(slices.Clone(good.Own), impl.SList{})},
	}
	for _, slot := range []int{-1, 24, math.MinInt, math.MaxInt, 7, 20, 0, 23} {
		for k := range 3 {
			l := copyOfLists(good)
			l.Global[k].Slots = append(l.Global[k].Slots, slot)
			bad = append(bad, l)
		}
		l := copyOfLists(good)
		l.Own[2].Slots = []int{slot}
		bad = append(bad, l)
	}
	full := copyOfLists(good)
	full.Own[4].Slots = []int{10, 11, 13}
	twice := copyOfLists(good)
	twice.Own[4].Slots = []int{10, 10}
	return append(bad, full, twice)
}

func TestListConstants(t *testing.T) {
	if impl.Workers != 3 || impl.OwnMost != 2 {
		t.Error("the constants are", impl.Workers, impl.OwnMost)
	}
}

func TestListsNew(t *testing.T) {
	l := impl.ListsNew()
	if len(l.Global) != 3 || len(l.Own) != 9 || !impl.ListsOk(l) {
		t.Error("ListsNew is", l)
	}
	for _, list := range append(l.Global, l.Own...) {
		if len(list.Slots) != 0 {
			t.Error("a new list has slots:", list)
		}
	}
	for slot := range impl.SlotMax {
		if impl.OnList(l, slot) {
			t.Errorf("slot %d is on a new list", slot)
		}
	}
}

func TestListsOk(t *testing.T) {
	var all []int
	for slot := range impl.SlotMax {
		all = append(all, slot)
	}
	nothing := make([][]int, 9)
	for _, l := range []impl.Lists{
		someLists(),
		listsOf([][]int{all, nil, nil}, nothing),
		listsOf([][]int{nil, nil, all}, nothing),
		listsOf([][]int{all[18:], nil, nil}, [][]int{{0, 1}, {2, 3}, {4, 5}, {6, 7}, {8, 9}, {10, 11}, {12, 13}, {14, 15}, {16, 17}}),
	} {
		if !impl.ListsOk(l) {
			t.Error("valid lists are refused:", l)
		}
	}
	for _, l := range badLists() {
		if impl.ListsOk(l) {
			t.Error("invalid lists are accepted:", l)
		}
	}
}

func TestOwnAt(t *testing.T) {
	for w := -2; w <= 4; w++ {
		for c := -2; c <= 4; c++ {
			want := -1
			if w >= 0 && w < 3 && c >= 0 && c < 3 {
				want = 3*w + c
			}
			if got := impl.OwnAt(w, c); got != want {
				t.Errorf("OwnAt(%d, %d) = %d, want %d", w, c, got, want)
			}
		}
	}
	for _, x := range []int{math.MinInt, -1, 3, math.MaxInt} {
		if impl.OwnAt(x, 0) != -1 || impl.OwnAt(0, x) != -1 {
			t.Errorf("%d is a worker or a class", x)
		}
	}
}

func TestTakeOwn(t *testing.T) {
	for w := -1; w <= 3; w++ {
		for c := -1; c <= 3; c++ {
			l, want, slotWant := someLists(), someLists(), -1
			if at := impl.OwnAt(w, c); at >= 0 && len(want.Own[at].Slots) > 0 {
				last := len(want.Own[at].Slots) - 1
				slotWant = want.Own[at].Slots[last]
				want.Own[at].Slots = want.Own[at].Slots[:last]
			}
			if next, slot := impl.TakeOwn(l, w, c); slot != slotWant || !impl.SameLists(next, want) {
				t.Errorf("TakeOwn of worker %d and class %d = %d and %v", w, c, slot, next)
			}
		}
	}
	for _, l := range badLists() {
		if next, slot := impl.TakeOwn(l, 0, 0); slot != -1 || !impl.SameLists(next, l) {
			t.Errorf("TakeOwn from the invalid lists %v = %d", l, slot)
		}
	}
}

func TestTakeGlobal(t *testing.T) {
	for c := -2; c <= 4; c++ {
		want, slotWant := someLists(), -1
		switch c {
		case 0:
			want.Global[0].Slots, slotWant = []int{7, 20}, 3
		case 2:
			want.Global[2].Slots, slotWant = nil, 8
		}
		if next, slot := impl.TakeGlobal(someLists(), c); slot != slotWant || !impl.SameLists(next, want) {
			t.Errorf("TakeGlobal of class %d = %d and %v", c, slot, next)
		}
	}
	for _, c := range []int{math.MinInt, -1, 3, math.MaxInt} {
		if next, slot := impl.TakeGlobal(someLists(), c); slot != -1 || !impl.SameLists(next, someLists()) {
			t.Errorf("TakeGlobal of class %d = %d", c, slot)
		}
	}
	for _, l := range badLists() {
		if next, slot := impl.TakeGlobal(l, 0); slot != -1 || !impl.SameLists(next, l) {
			t.Errorf("TakeGlobal from the invalid lists %v = %d", l, slot)
		}
	}
}

func TestGiveExamples(t *testing.T) {
	for _, x := range []struct {
		w, c, slot int
		own        bool
	}{
		{0, 0, 6, false}, {0, 1, 6, true}, {0, 2, 6, true}, {1, 0, 22, true}, {1, 2, 6, true}, {2, 0, 6, true}, {2, 1, 6, false}, {2, 2, 6, false},
	} {
		want := someLists()
		if x.own {
			list := &want.Own[3*x.w+x.c]
			list.Slots = append(list.Slots, x.slot)
		} else {
			list := &want.Global[x.c]
			list.Slots = append(list.Slots, x.slot)
		}
		if next, ok := impl.Give(someLists(), x.w, x.c, x.slot); !ok || !impl.SameLists(next, want) {
			t.Errorf("Give of slot %d by worker %d for class %d = %v, %t", x.slot, x.w, x.c, next, ok)
		}
	}
}

func TestGiveToAFullLocalList(t *testing.T) {
	l := impl.ListsNew()
	for slot := range 5 {
		next, ok := impl.Give(l, 2, 1, slot)
		if !ok || !impl.ListsOk(next) {
			t.Fatalf("slot %d is refused", slot)
		}
		l = next
	}
	if !impl.SameLists(l, listsOf([][]int{nil, {2, 3, 4}, nil}, [][]int{nil, nil, nil, nil, nil, nil, nil, {0, 1}, nil})) {
		t.Error("the lists are", l)
	}
	for _, want := range []int{1, 0, -1} {
		next, slot := impl.TakeOwn(l, 2, 1)
		if slot != want {
			t.Errorf("TakeOwn = %d, want %d", slot, want)
		}
		l = next
	}
	for _, want := range []int{4, 3, 2, -1} {
		next, slot := impl.TakeGlobal(l, 1)
		if slot != want {
			t.Errorf("TakeGlobal = %d, want %d", slot, want)
		}
		l = next
	}
	if !impl.SameLists(l, impl.ListsNew()) {
		t.Error("the lists are", l)
	}
}

func TestGiveRefuses(t *testing.T) {
	refused := func(l impl.Lists, w int, c int, slot int) {
		t.Helper()
		if next, ok := impl.Give(l, w, c, slot); ok || !impl.SameLists(next, l) {
			t.Errorf("Give of slot %d by worker %d for class %d to %v = %v, %t", slot, w, c, l, next, ok)
		}
	}
	for _, x := range []int{math.MinInt, -1, 3, math.MaxInt} {
		refused(someLists(), x, 0, 6)
		refused(someLists(), 0, x, 6)
	}
	for _, slot := range []int{math.MinInt, -1, 24, math.MaxInt} {
		refused(someLists(), 1, 1, slot)
	}
	for _, slot := range []int{7, 20, 3, 8, 0, 1, 4, 16, 2, 9, 5, 12, 23} {
		for w := range impl.Workers {
			for c := range impl.Classes {
				refused(someLists(), w, c, slot)
			}
		}
	}
	for _, l := range badLists() {
		refused(l, 1, 1, 6)
	}
}

func TestOnList(t *testing.T) {
	on := []int{7, 20, 3, 8, 0, 1, 4, 16, 2, 9, 5, 12, 23}
	for slot := -2; slot <= 26; slot++ {
		if got := impl.OnList(someLists(), slot); got != slices.Contains(on, slot) {
			t.Errorf("OnList(%d) = %t", slot, got)
		}
	}
	odd := listsOf([][]int{{5, 5}, {6}}, [][]int{{1}, {2}, {3}, {4, 10, 11, 12}, {}, {}, {}, {}, {}, {}, {}, {19}})
	for slot := range impl.SlotMax {
		want := slices.Contains([]int{5, 6, 1, 2, 3, 4, 10, 11, 12, 19}, slot)
		if got := impl.OnList(odd, slot); got != want {
			t.Errorf("OnList(%d) of invalid lists = %t", slot, got)
		}
	}
	if impl.OnList(impl.Lists{}, 0) || impl.OnList(impl.Lists{}, -1) {
		t.Error("a slot is on no list")
	}
}

func TestFreeOf(t *testing.T) {
	for c, want := range map[int]int{0: 6, 1: 3, 2: 4, -1: 0, 3: 0, math.MinInt: 0, math.MaxInt: 0} {
		if got := impl.FreeOf(someLists(), c); got != want {
			t.Errorf("FreeOf(%d) = %d, want %d", c, got, want)
		}
	}
	for _, l := range badLists() {
		for c := range impl.Classes {
			if got := impl.FreeOf(l, c); got != 0 {
				t.Errorf("FreeOf(%d) of the invalid lists %v = %d", c, l, got)
			}
		}
	}
}

func TestSameLists(t *testing.T) {
	if !impl.SameLists(someLists(), someLists()) || !impl.SameLists(impl.Lists{}, impl.Lists{}) {
		t.Error("equal lists differ")
	}
	others := append(badLists(), impl.ListsNew())
	for k := range 3 {
		l := someLists()
		l.Global[k].Slots = append(slices.Clone(l.Global[k].Slots), 6)
		others = append(others, l)
	}
	for k := range 9 {
		l := someLists()
		l.Own[k].Slots = append(slices.Clone(l.Own[k].Slots), 6)
		others = append(others, l)
	}
	order := someLists()
	order.Own[0].Slots = []int{1, 0}
	moved := someLists()
	moved.Global[1].Slots, moved.Global[2].Slots = moved.Global[2].Slots, moved.Global[1].Slots
	for i, l := range append(others, order, moved) {
		if impl.SameLists(l, someLists()) || impl.SameLists(someLists(), l) {
			t.Errorf("lists %d are the same: %v", i, l)
		}
	}
}

// TestListsWalk gives and takes slots in a fixed disorder and follows where each of them must be.
func TestListsWalk(t *testing.T) {
	l, model := impl.ListsNew(), impl.ListsNew()
	for i, x := range spread(6000, 1<<30) {
		w, c, slot := x%3, x/3%3, x/9%24
		own, global := &model.Own[3*w+c].Slots, &model.Global[c].Slots
		var from *[]int
		switch x / 216 % 4 {
		case 0:
			from = own
			got, taken := impl.TakeOwn(l, w, c)
			checkTaken(t, i, from, taken)
			l = got
		case 1:
			from = global
			got, taken := impl.TakeGlobal(l, c)
			checkTaken(t, i, from, taken)
			l = got
		default:
			on := impl.OnList(l, slot)
			got, ok := impl.Give(l, w, c, slot)
			if ok == on || !impl.OnList(got, slot) {
				t.Fatalf("step %d: Give of slot %d is %t", i, slot, ok)
			}
			if !on && len(*own) < 2 {
				*own = append(*own, slot)
			} else if !on {
				*global = append(*global, slot)
			}
			l = got
		}
		if !impl.SameLists(l, model) || !impl.ListsOk(l) {
			t.Fatalf("step %d: the lists are %v, want %v", i, l, model)
		}
		for c := range impl.Classes {
			if got := impl.FreeOf(l, c); got != len(model.Global[c].Slots)+len(model.Own[c].Slots)+len(model.Own[3+c].Slots)+len(model.Own[6+c].Slots) {
				t.Fatalf("step %d: FreeOf(%d) = %d", i, c, got)
			}
		}
	}
}

// checkTaken compares the taken slot with the last one of the list and removes it.
func checkTaken(t *testing.T, step int, from *[]int, taken int) {
	t.Helper()
	want := -1
	if last := len(*from) - 1; last >= 0 {
		want = (*from)[last]
		*from = (*from)[:last]
	}
	if taken != want {
		t.Fatalf("step %d takes %d, want %d", step, taken, want)
	}
}

func TestListsArePure(t *testing.T) {
	lists := pool(append(badLists(), impl.ListsNew(), someLists())...)
	few := pool(impl.Lists{}, impl.ListsNew(), someLists())
	some := pool(-1, 0, 2, 3)
	pure(t, impl.ListsNew)
	pureOverAll(t, impl.ListsOk, lists)
	pureOverAll(t, impl.TakeOwn, lists, some, some)
	pureOverAll(t, impl.TakeGlobal, lists, some)
	pureOverAll(t, impl.Give, lists, some, some, pool(-1, 0, 6, 24))
	pureOverAll(t, impl.OnList, lists, some)
	pureOverAll(t, impl.FreeOf, lists, some)
	pureOverAll(t, impl.SameLists, few, few)
}
