package tests

import (
	"math"
	"slices"
	"testing"

	"loop.example/g01538/impl"
)

// byteList returns n bytes that differ from their neighbours.
func byteList(n int) []int {
	b := make([]int, n)
	for i := range b {
		b[i] = (i*37 + 11) % 256
	}
	return b
}

func byteText(b []int) string {
	s := make([]byte, len(b))
	for i, x := range b {
		s[i] = byte(x)
	}
	return string(s)
}

// badBytes returns invalid lists of bytes.
func badBytes() [][]int {
	return [][]int{
		{-1}, {256}, {1, 2, 3, 256}, {-1, 2, 3, 4}, {1, 2, math.MinInt, 4}, {1, 2, 3, 4, 5, 6, 7, 8, math.MaxInt},
		byteList(impl.MaxBytes + 1), make([]int, 2*impl.MaxBytes),
	}
}

// manyInts returns numbers that are out of most ranges.
func manyInts() []int {
	return []int{math.MinInt, math.MinInt + 1, math.MinInt + 7, -1 << 32, -1001, -2, -1, 8, 9, 1001, 1 << 32, math.MaxInt - 7, math.MaxInt - 1, math.MaxInt}
}

func TestMaxBytes(t *testing.T) {
	if impl.MaxBytes != 1000 {
		t.Error("MaxBytes is", impl.MaxBytes)
	}
}

func TestBytesOk(t *testing.T) {
	for _, b := range [][]int{nil, {}, {0}, {255}, {0, 255, 7}, byteList(999), byteList(impl.MaxBytes)} {
		if !impl.BytesOk(b) {
			t.Errorf("%d bytes are refused", len(b))
		}
	}
	for _, b := range badBytes() {
		if impl.BytesOk(b) {
			t.Errorf("an invalid list of %d is accepted", len(b))
		}
	}
}

func TestLoadNumExamples(t *testing.T) {
	b := []int{1, 2, 3, 4, 5, 6, 7, 8, 255}
	for _, c := range []struct{ at, width, want int }{
		{0, 1, 1}, {1, 2, 515}, {0, 7, 0x01020304050607}, {2, 7, 0x030405060708ff}, {7, 2, 0x08ff}, {8, 1, 255},
	} {
		if n, ok := impl.LoadNum(b, c.at, c.width); n != c.want || !ok {
			t.Errorf("LoadNum at %d of width %d = %d, %t, want %d", c.at, c.width, n, ok, c.want)
		}
	}
}

// loadWant is LoadNum of a valid list by the decoder of chapter 1.
func loadWant(b []int, at int, width int) (int, bool) {
	if at < 0 || at > len(b) {
		return 0, false
	}
	return impl.ReadFixed(byteText(b)[at:], width)
}

func TestLoadNumIsReadFixed(t *testing.T) {
	for length := range 17 {
		b := byteList(length)
		for at := -3; at <= length+3; at++ {
			for width := -2; width <= 10; width++ {
				n, ok := impl.LoadNum(b, at, width)
				want, wantOk := loadWant(b, at, width)
				if n != want || ok != wantOk {
					t.Fatalf("LoadNum of %d bytes at %d of width %d = %d, %t, want %d, %t", length, at, width, n, ok, want, wantOk)
				}
			}
		}
	}
}

func TestLoadNumEndsWithTheLastByte(t *testing.T) {
	for _, length := range []int{7, 8, impl.MaxBytes} {
		b := byteList(length)
		for width := 1; width <= 7; width++ {
			if _, ok := impl.LoadNum(b, length-width, width); !ok {
				t.Errorf("width %d does not reach the end of %d bytes", width, length)
			}
			if n, ok := impl.LoadNum(b, length-width+1, width); n != 0 || ok {
				t.Errorf("width %d exceeds %d bytes, but gives %d", width, length, n)
			}
		}
	}
}

func TestLoadNumRefuses(t *testing.T) {
	for _, b := range badBytes() {
		if n, ok := impl.LoadNum(b, 0, 1); n != 0 || ok {
			t.Errorf("an invalid list of %d gives %d, %t", len(b), n, ok)
		}
	}
	for _, x := range manyInts() {
		if n, ok := impl.LoadNum(byteList(8), x, 1); n != 0 || ok {
			t.Errorf("offset %d gives %d, %t", x, n, ok)
		}
		if n, ok := impl.LoadNum(byteList(20), 1, x); n != 0 || ok {
			t.Errorf("width %d gives %d, %t", x, n, ok)
		}
	}
}

// storeWant is StoreNum of a valid list by the encoder of chapter 1.
func storeWant(b []int, at int, width int, n int) ([]int, bool) {
	s := impl.Fixed(n, width)
	want := slices.Clone(b)
	if _, ok := loadWant(b, at, width); !ok || s == "" {
		return want, false
	}
	for i := range len(s) {
		want[at+i] = int(s[i])
	}
	return want, true
}

// limitsOf returns numbers around the limit of each width.
func limitsOf() []int {
	l := []int{math.MinInt, -1, 0, 1, 127, 128, math.MaxInt}
	for width := 1; width <= 7; width++ {
		l = append(l, 1<<(8*width)-1, 1<<(8*width), 0x0102030405060708>>(8*(8-width)))
	}
	return l
}

func TestStoreNum(t *testing.T) {
	for length := range 10 {
		b := byteList(length)
		for at := -2; at <= length+2; at++ {
			for width := -1; width <= 9; width++ {
				for _, n := range limitsOf() {
					checkStore(t, b, at, width, n)
				}
			}
		}
	}
}

func checkStore(t *testing.T, b []int, at int, width int, n int) {
	t.Helper()
	got, ok := impl.StoreNum(b, at, width, n)
	want, wantOk := storeWant(b, at, width, n)
	if ok != wantOk || !slices.Equal(got, want) {
		t.Fatalf("StoreNum of %d at %d of width %d in %v = %v, %t", n, at, width, b, got, ok)
	}
	if !slices.Equal(b, byteList(len(b))) {
		t.Fatalf("StoreNum changed its argument to %v", b)
	}
	if m, _ := impl.LoadNum(got, at, width); ok && m != n {
		t.Fatalf("LoadNum returns %d where %d was stored", m, n)
	}
}

func TestStoreNumAtTheEnd(t *testing.T) {
	for width := 1; width <= 7; width++ {
		checkStore(t, byteList(impl.MaxBytes), impl.MaxBytes-width, width, 200)
		checkStore(t, byteList(impl.MaxBytes), impl.MaxBytes-width+1, width, 200)
	}
}

func TestStoreNumRefuses(t *testing.T) {
	for _, b := range badBytes() {
		if got, ok := impl.StoreNum(b, 0, 1, 9); ok || !slices.Equal(got, b) {
			t.Errorf("an invalid list of %d gives %t", len(b), ok)
		}
	}
	for _, x := range manyInts() {
		checkStore(t, byteList(8), x, 1, 5)
		checkStore(t, byteList(8), 1, x, 5)
	}
}

func TestCasNum(t *testing.T) {
	b := []int{1, 2, 3, 4}
	for _, c := range []struct {
		at, width, old, to int
		want               []int
		ok                 bool
	}{
		{0, 1, 1, 9, []int{9, 2, 3, 4}, true},
		{2, 2, 772, 258, []int{1, 2, 1, 2}, true},
		{0, 4, 0x01020304, 0, []int{0, 0, 0, 0}, true},
		{3, 1, 4, 4, b, true},
		{3, 1, 4, 255, []int{1, 2, 3, 255}, true},
		{3, 1, 4, 256, b, false},
		{3, 1, 4, -1, b, false},
		{0, 1, 2, 9, b, false},
		{0, 1, 0, 9, b, false},
		{0, 1, 257, 9, b, false},
		{3, 2, 0, 0, b, false},
		{4, 1, 0, 0, b, false},
		{-1, 1, 0, 0, b, false},
		{0, 0, 0, 0, b, false},
		{0, 8, 0, 0, b, false},
		{math.MaxInt, 1, 0, 0, b, false},
	} {
		if got, ok := impl.CasNum(b, c.at, c.width, c.old, c.to); ok != c.ok || !slices.Equal(got, c.want) {
			t.Errorf("CasNum at %d of width %d from %d to %d = %v, %t", c.at, c.width, c.old, c.to, got, ok)
		}
	}
	for _, bad := range badBytes() {
		if got, ok := impl.CasNum(bad, 0, 1, 0, 0); ok || !slices.Equal(got, bad) {
			t.Errorf("an invalid list of %d gives %t", len(bad), ok)
		}
	}
}

func TestCasNumChangesExactlyWithTheOldNumber(t *testing.T) {
	for length := range 8 {
		b := byteList(length)
		for at := -1; at <= length; at++ {
			for width := 0; width <= 8; width++ {
				now, ok := impl.LoadNum(b, at, width)
				for _, old := range []int{now, now + 1, now - 1, now + 256, -now, 0} {
					got, done := impl.CasNum(b, at, width, old, 77)
					want, _ := storeWant(b, at, width, 77)
					if !ok || old != now {
						want = b
					}
					if done != (ok && old == now) || !slices.Equal(got, want) {
						t.Fatalf("CasNum at %d of width %d from %d in %v = %v, %t", at, width, old, b, got, done)
					}
				}
			}
		}
	}
}

func TestFill(t *testing.T) {
	for length := range 7 {
		b := byteList(length)
		for at := -2; at <= length+2; at++ {
			for n := -2; n <= length+2; n++ {
				for _, x := range []int{math.MinInt, -1, 0, 7, 255, 256, math.MaxInt} {
					checkFill(t, b, at, n, x)
				}
			}
		}
	}
	checkFill(t, byteList(impl.MaxBytes), 0, impl.MaxBytes, 3)
	checkFill(t, byteList(impl.MaxBytes), impl.MaxBytes-1, 1, 3)
	for _, x := range manyInts() {
		checkFill(t, byteList(7), x, 1, 3)
		checkFill(t, byteList(7), x, 0, 3)
		checkFill(t, byteList(7), 1, x, 3)
		checkFill(t, byteList(7), x, x, 3)
	}
}

func checkFill(t *testing.T, b []int, at int, n int, x int) {
	t.Helper()
	want := slices.Clone(b)
	ok := n >= 0 && at >= 0 && at <= len(b) && n <= len(b)-at && x >= 0 && x <= 255
	for i := range want {
		if ok && i >= at && i < at+n {
			want[i] = x
		}
	}
	if got, done := impl.Fill(b, at, n, x); done != ok || !slices.Equal(got, want) {
		t.Fatalf("Fill of %d bytes at %d with %d in %v = %v, %t", n, at, x, b, got, done)
	}
}

func TestFillRefusesInvalidLists(t *testing.T) {
	for _, b := range badBytes() {
		for n := range 2 {
			if got, ok := impl.Fill(b, 0, n, 5); ok || !slices.Equal(got, b) {
				t.Errorf("an invalid list of %d gives %t", len(b), ok)
			}
		}
	}
}

func TestSameBytes(t *testing.T) {
	for _, c := range []struct {
		a, b []int
		want bool
	}{
		{nil, nil, true},
		{nil, []int{}, true},
		{nil, []int{0}, false},
		{[]int{0}, nil, false},
		{[]int{1, 2}, []int{1, 2}, true},
		{[]int{1, 2}, []int{2, 1}, false},
		{[]int{1, 2}, []int{1, 2, 0}, false},
		{[]int{1, 2, 0}, []int{1, 2}, false},
		{[]int{1, 2}, []int{1, 258}, false},
		{[]int{-1, 256}, []int{-1, 256}, true},
		{[]int{-1}, []int{255}, false},
		{byteList(1500), byteList(1500), true},
	} {
		if got := impl.SameBytes(c.a, c.b); got != c.want {
			t.Errorf("SameBytes(%v, %v) = %t", c.a, c.b, got)
		}
	}
}

func TestBytesArePure(t *testing.T) {
	lists := pool([]int(nil), []int{5}, []int{1, 2, 3, 4}, []int{1, 256, 3}, byteList(1001))
	numbers := pool(-1, 0, 1, 2)
	pureOverAll(t, impl.BytesOk, lists)
	pureOverAll(t, impl.LoadNum, lists, numbers, numbers)
	pureOverAll(t, impl.StoreNum, lists, numbers, numbers, pool(-1, 0, 7, 256))
	pureOverAll(t, impl.CasNum, lists, numbers, numbers, pool(0, 1, 5, 258), pool(-1, 0, 9))
	pureOverAll(t, impl.Fill, lists, numbers, numbers, pool(-1, 0, 7, 256))
	pureOverAll(t, impl.SameBytes, lists, lists)
}
