package tests

import (
	"math"
	"slices"
	"testing"

	"loop.example/g01538/impl"
)

func calls(serial int, cmds ...impl.Cmd) impl.TEv {
	return impl.TEv{Kind: impl.TvCall, Serial: serial, Cmds: cmds}
}

func point(serial int) impl.TEv { return impl.TEv{Kind: impl.TvPoint, Serial: serial} }

func tells(serial int, code int, res ...impl.Res) impl.TEv {
	return impl.TEv{Kind: impl.TvTell, Serial: serial, Code: code, Res: res}
}

// logFrom returns a log of events of few serials, in an order that depends on x alone and that no schedule need have.
func logFrom(x int, n int) []impl.TEv {
	var l []impl.TEv
	for i, y := range spread(n+x, 1<<40)[x:] {
		e := impl.TEv{Kind: y % 5, Who: y / 5 % 3, Serial: y/15%5 - 1}
		if e.Kind == impl.TvTell && y/1000%3 == 0 {
			e.Code = y / 3000 % 9
		}
		if e.Kind == impl.TvCall {
			e.Cmds = cmdsFrom(x+i, y/100%3)
		}
		l = append(l, e)
	}
	return l
}

func placeWant(l []impl.TEv, kind int, serial int) int {
	for i := range l {
		if l[i].Kind == kind && l[i].Serial == serial {
			return i
		}
	}
	return -1
}

func orderWant(l []impl.TEv) []int {
	var order []int
	seen := map[int]bool{}
	for _, e := range l {
		if e.Kind != impl.TvPoint || seen[e.Serial] {
			continue
		}
		seen[e.Serial] = true
		if tell := placeWant(l, impl.TvTell, e.Serial); tell >= 0 && l[tell].Code == impl.CdOk {
			order = append(order, e.Serial)
		}
	}
	return order
}

func inTimeWant(l []impl.TEv, a int, b int) bool {
	tell, call := placeWant(l, impl.TvTell, a), placeWant(l, impl.TvCall, b)
	return tell >= 0 && call >= 0 && tell < call
}

func strictWant(l []impl.TEv) bool {
	order := orderWant(l)
	for i := range order {
		for k := range i {
			if inTimeWant(l, order[i], order[k]) {
				return false
			}
		}
	}
	return true
}

func TestHistories(t *testing.T) {
	strict, committed := 0, 0
	for x := range 1000 {
		l := logFrom(x, x%24)
		for kind := -1; kind <= 5; kind++ {
			for serial := -2; serial <= 5; serial++ {
				if got := impl.PlaceOf(l, kind, serial); got != placeWant(l, kind, serial) {
					t.Fatalf("PlaceOf %d, %d in %v = %d", kind, serial, l, got)
				}
			}
		}
		order := impl.Order(l)
		if !slices.Equal(order, orderWant(l)) {
			t.Fatalf("Order of %v = %v", l, order)
		}
		for a := -2; a <= 5; a++ {
			for b := -2; b <= 5; b++ {
				if got := impl.InTime(l, a, b); got != inTimeWant(l, a, b) {
					t.Fatalf("InTime of %d and %d in %v = %t", a, b, l, got)
				}
			}
		}
		if got := impl.Strict(l); got != strictWant(l) {
			t.Fatalf("Strict of %v = %t", l, got)
		} else if got && len(order) > 1 {
			strict++
		}
		for code := -1; code <= 9; code++ {
			n := 0
			for _, e := range l {
				if e.Kind == impl.TvTell && e.Code == code {
					n++
				}
			}
			if got := impl.Codes(l, code); got != n {
				t.Fatalf("Codes of %d in %v = %d", code, l, got)
			}
		}
		committed += min(len(order), 2) / 2
	}
	if strict < 20 || committed-strict < 10 {
		t.Errorf("%d logs of %d are strict", strict, committed)
	}
}

func TestEmptyHistory(t *testing.T) {
	for _, n := range []int{math.MinInt, -1, 0, 1, math.MaxInt} {
		if impl.PlaceOf(nil, n, n) != -1 || impl.InTime(nil, n, n) || impl.Codes(nil, n) != 0 {
			t.Error("there are events in no log")
		}
	}
	if len(impl.Order(nil)) != 0 || !impl.Strict(nil) {
		t.Error("there is an order in no log")
	}
}

func TestOrderOfPoints(t *testing.T) {
	for _, x := range []struct {
		l    []impl.TEv
		want []int
	}{
		{[]impl.TEv{point(1), tells(1, impl.CdOk)}, []int{1}},
		{[]impl.TEv{point(1)}, nil},
		{[]impl.TEv{tells(1, impl.CdOk)}, nil},
		{[]impl.TEv{point(1), tells(1, impl.CdClash)}, nil},
		{[]impl.TEv{point(1), tells(1, impl.CdClash), tells(1, impl.CdOk)}, nil},
		{[]impl.TEv{point(1), tells(1, impl.CdOk), tells(1, impl.CdClash)}, []int{1}},
		{[]impl.TEv{tells(1, impl.CdOk), point(1)}, []int{1}},
		{[]impl.TEv{point(3), point(-1), tells(-1, impl.CdOk), tells(3, impl.CdOk), point(0), tells(0, impl.CdOk)}, []int{3, -1, 0}},
	} {
		if got := impl.Order(x.l); !slices.Equal(got, x.want) {
			t.Errorf("Order of %v = %v", x.l, got)
		}
	}
}

// Two serialization points of one serial count as one, at the place of the first.
func TestTwoPointsOfOneSerial(t *testing.T) {
	for _, x := range []struct {
		l    []impl.TEv
		want []int
	}{
		{[]impl.TEv{point(1), point(1), tells(1, impl.CdOk)}, []int{1}},
		{[]impl.TEv{point(1), point(2), point(1), tells(1, impl.CdOk), tells(2, impl.CdOk)}, []int{1, 2}},
		{[]impl.TEv{point(2), point(1), point(2), point(1), point(2), tells(1, impl.CdOk), tells(2, impl.CdOk)}, []int{2, 1}},
		{[]impl.TEv{point(1), point(2), point(1), tells(1, impl.CdClash), tells(2, impl.CdOk)}, []int{2}},
		{[]impl.TEv{point(1), tells(1, impl.CdOk), point(2), tells(2, impl.CdOk), point(1)}, []int{1, 2}},
	} {
		if got := impl.Order(x.l); !slices.Equal(got, x.want) {
			t.Errorf("Order of %v = %v", x.l, got)
		}
	}
	// With the second point instead of the first the order would not be strict, and the other way round.
	l := []impl.TEv{calls(1), point(1), tells(1, impl.CdOk), calls(2), point(2), point(1), tells(2, impl.CdOk)}
	if !impl.Strict(l) {
		t.Error("the second point counts")
	}
	l = []impl.TEv{point(2), calls(1), point(1), tells(1, impl.CdOk), calls(2), point(2), tells(2, impl.CdOk)}
	if impl.Strict(l) {
		t.Error("the first point does not count")
	}
}

func TestInTime(t *testing.T) {
	l := []impl.TEv{calls(1), tells(1, impl.CdClash), calls(2), calls(1), tells(2, impl.CdOk), tells(1, impl.CdOk), calls(3), calls(2), tells(4, impl.CdOk)}
	for a := range 6 {
		for b := range 6 {
			want := a == 1 && (b == 2 || b == 3) || a == 2 && b == 3
			if got := impl.InTime(l, a, b); got != want {
				t.Errorf("InTime of %d and %d = %t", a, b, got)
			}
		}
	}
}

// TestStrictInEveryState checks a part of promise 26, which does not wait for the end of a schedule.
func TestStrictInEveryState(t *testing.T) {
	orders := 0
	for i := range 40 {
		s := impl.TScript{Todo: batchesFrom(i)}
		x := impl.TableNew(s.Todo)
		for _, y := range spread(1000+i, 1<<40)[i:] {
			x = impl.TableStep(x, y%3)
			if !impl.Strict(x.Log) || !strictWant(x.Log) {
				t.Fatalf("the log of schedule %d is not strict: %v", i, x.Log)
			}
		}
		orders += len(impl.Order(x.Log))
		if got, want := impl.Codes(x.Log, impl.CdOk), len(impl.Order(x.Log)); got < want {
			t.Fatalf("schedule %d has %d batches that succeed, but orders %d", i, got, want)
		}
	}
	if orders < 200 {
		t.Error("the schedules order only", orders)
	}
}

func TestHistoriesArePure(t *testing.T) {
	logs := pool(nil, logFrom(1, 9), logFrom(2, 23), impl.TableFinish(impl.TableNew(batchesFrom(1))).Log)
	serials := pool(-1, 0, 1, 2)
	pureOverAll(t, impl.PlaceOf, logs, pool(1, 2, 3), serials)
	pureOverAll(t, impl.Order, logs)
	pureOverAll(t, impl.InTime, logs, serials, serials)
	pureOverAll(t, impl.Strict, logs)
	pureOverAll(t, impl.Codes, logs, serials)
}
