package tests

import (
	"math"
	"strings"
	"testing"

	"loop.example/g01538/impl"
)

// aroundPowers returns the numbers next to each power of two, up to the least and the greatest int.
func aroundPowers() []int {
	l := []int{math.MinInt, math.MinInt + 1, math.MaxInt - 1, math.MaxInt, -1, 0}
	for k := range 62 {
		l = append(l, 1<<k-1, 1<<k, 1<<k+1, -1<<k)
	}
	return l
}

// spread returns count numbers below limit that depend on nothing but the arguments.
func spread(count int, limit int) []int {
	l := make([]int, count)
	x := uint64(88172645463325252)
	for i := range l {
		x ^= x << 13
		x ^= x >> 7
		x ^= x << 17
		l[i] = int(x % uint64(limit))
	}
	return l
}

// texts calls see with every string of at most most bytes from letters.
func texts(letters string, most int, see func(string)) {
	textsFrom("", letters, most, see)
}

func textsFrom(start string, letters string, more int, see func(string)) {
	see(start)
	if more == 0 {
		return
	}
	for i := range len(letters) {
		textsFrom(start+letters[i:i+1], letters, more-1, see)
	}
}

func allBytes() string {
	b := make([]byte, 256)
	for i := range b {
		b[i] = byte(i)
	}
	return string(b)
}

func TestFixedExamples(t *testing.T) {
	for _, c := range []struct {
		n, width int
		want     string
	}{
		{0, 1, "\x00"},
		{0, 7, "\x00\x00\x00\x00\x00\x00\x00"},
		{7, 1, "\x07"},
		{255, 1, "\xff"},
		{258, 2, "\x01\x02"},
		{65535, 2, "\xff\xff"},
		{65535, 3, "\x00\xff\xff"},
		{0x01020304050607, 7, "\x01\x02\x03\x04\x05\x06\x07"},
		{1<<56 - 1, 7, "\xff\xff\xff\xff\xff\xff\xff"},
	} {
		if got := impl.Fixed(c.n, c.width); got != c.want {
			t.Errorf("Fixed(%d, %d) = %q, want %q", c.n, c.width, got, c.want)
		}
	}
}

func TestFixedRefuses(t *testing.T) {
	for _, width := range []int{math.MinInt, -8, -1, 0, 8, 9, 64, math.MaxInt} {
		for _, n := range []int{math.MinInt, -1, 0, 1, 300, math.MaxInt} {
			if got := impl.Fixed(n, width); got != "" {
				t.Errorf("Fixed(%d, %d) = %q, want the empty string", n, width, got)
			}
		}
	}
	for width := 1; width <= 7; width++ {
		for _, n := range []int{math.MinInt, -256, -1, 1 << (8 * width), 1<<(8*width) + 1, math.MaxInt} {
			if got := impl.Fixed(n, width); got != "" {
				t.Errorf("Fixed(%d, %d) = %q, want the empty string", n, width, got)
			}
		}
	}
}

func TestReadFixedExamples(t *testing.T) {
	for _, c := range []struct {
		s     string
		width int
		want  int
	}{
		{"\x00", 1, 0},
		{"\xff", 1, 255},
		{"\x01\x02", 2, 258},
		{"\x01\x02\x03", 2, 258},
		{"\x01\x02\x03", 1, 1},
		{"\x00\x00\x09", 3, 9},
		{"\x01\x02\x03\x04\x05\x06\x07\x08", 7, 0x01020304050607},
		{"\xff\xff\xff\xff\xff\xff\xff", 7, 1<<56 - 1},
	} {
		if got, ok := impl.ReadFixed(c.s, c.width); got != c.want || !ok {
			t.Errorf("ReadFixed(%q, %d) = %d, %t, want %d, true", c.s, c.width, got, ok, c.want)
		}
	}
}

func TestReadFixedRefuses(t *testing.T) {
	long := strings.Repeat("\x01", 100)
	for _, width := range []int{math.MinInt, -1, 0, 8, 9, math.MaxInt} {
		for _, s := range []string{"", "\x01", long} {
			if got, ok := impl.ReadFixed(s, width); got != 0 || ok {
				t.Errorf("ReadFixed(%q, %d) = %d, %t, want 0, false", s, width, got, ok)
			}
		}
	}
	for width := 1; width <= 7; width++ {
		for length := range width {
			if got, ok := impl.ReadFixed(long[:length], width); got != 0 || ok {
				t.Errorf("ReadFixed of %d bytes with width %d = %d, %t, want 0, false", length, width, got, ok)
			}
		}
	}
}

func TestFixedInverse(t *testing.T) {
	numbers := append(aroundPowers(), spread(3000, 1<<57)...)
	for width := 1; width <= 7; width++ {
		for _, n := range numbers {
			s := impl.Fixed(n, width)
			if fits := n >= 0 && n < 1<<(8*width); !fits {
				if s != "" {
					t.Fatalf("Fixed(%d, %d) = %q, but it does not fit", n, width, s)
				}
				continue
			}
			if len(s) != width {
				t.Fatalf("Fixed(%d, %d) has %d bytes", n, width, len(s))
			}
			for _, tail := range []string{"", "\x00", "\xff\xff\xff\xff\xff\xff\xff\xff"} {
				if got, ok := impl.ReadFixed(s+tail, width); got != n || !ok {
					t.Fatalf("ReadFixed(%q, %d) = %d, %t, want %d, true", s+tail, width, got, ok, n)
				}
			}
		}
	}
}

func TestReadFixedInverse(t *testing.T) {
	texts("\x00\x01\x7f\x80\xff", 7, func(s string) {
		for width := 1; width <= len(s); width++ {
			n, ok := impl.ReadFixed(s, width)
			if !ok || impl.Fixed(n, width) != s[:width] {
				t.Fatalf("ReadFixed(%q, %d) = %d, %t, which Fixed does not undo", s, width, n, ok)
			}
		}
	})
}

func TestVarExamples(t *testing.T) {
	for _, c := range []struct {
		n    int
		want string
	}{
		{0, "\x00"},
		{1, "\x01"},
		{127, "\x7f"},
		{128, "\x80\x01"},
		{300, "\xac\x02"},
		{16383, "\xff\x7f"},
		{16384, "\x80\x80\x01"},
		{1 << 42, "\x80\x80\x80\x80\x80\x80\x01"},
		{impl.MaxVar - 1, "\xfe\xff\xff\xff\xff\xff\x7f"},
		{impl.MaxVar, "\xff\xff\xff\xff\xff\xff\x7f"},
	} {
		if got := impl.Var(c.n); got != c.want {
			t.Errorf("Var(%d) = %q, want %q", c.n, got, c.want)
		}
		for _, tail := range []string{"", "\x00", "\x80", "z"} {
			if n, k := impl.ReadVar(c.want + tail); n != c.n || k != len(c.want) {
				t.Errorf("ReadVar(%q) = %d, %d, want %d, %d", c.want+tail, n, k, c.n, len(c.want))
			}
		}
	}
}

func TestMaxVar(t *testing.T) {
	if impl.MaxVar != 562949953421311 {
		t.Error("MaxVar is", impl.MaxVar)
	}
}

func TestVarRefuses(t *testing.T) {
	for _, n := range []int{math.MinInt, -300, -1, impl.MaxVar + 1, impl.MaxVar + 2, 1 << 56, math.MaxInt} {
		if got := impl.Var(n); got != "" {
			t.Errorf("Var(%d) = %q, want the empty string", n, got)
		}
	}
}

func TestReadVarRefuses(t *testing.T) {
	for _, s := range []string{
		"",
		"\x80",
		"\xff\xff\xff",
		"\x80\x00",
		"\xac\x82\x00",
		"\x80\x80\x80\x80\x80\x80\x00",
		"\xff\xff\xff\xff\xff\xff",
		"\xff\xff\xff\xff\xff\xff\xff",
		"\x80\x80\x80\x80\x80\x80\x80\x01",
		"\xff\xff\xff\xff\xff\xff\xff\x00",
		"\x80\x80\x80\x80\x80\x80\x80\x80\x80\x01",
		strings.Repeat("\x80", 10000) + "\x01",
	} {
		if n, k := impl.ReadVar(s); n != 0 || k != 0 {
			t.Errorf("ReadVar(%.20q) = %d, %d, want 0, 0", s, n, k)
		}
	}
}

func TestVarInverse(t *testing.T) {
	numbers := append(aroundPowers(), spread(20000, 2*impl.MaxVar)...)
	for n := range 1 << 15 {
		numbers = append(numbers, n)
	}
	for _, n := range numbers {
		s := impl.Var(n)
		if n < 0 || n > impl.MaxVar {
			if s != "" {
				t.Fatalf("Var(%d) = %q, but it is out of range", n, s)
			}
			continue
		}
		if got, k := impl.ReadVar(s + "\x81"); got != n || k != len(s) {
			t.Fatalf("ReadVar(Var(%d)) = %d, %d, want %d, %d", n, got, k, n, len(s))
		}
	}
}

// varLen returns the length of the varint with which s starts as the document describes it, or 0.
func varLen(s string) int {
	for i := range min(len(s), 7) {
		if s[i] >= 128 {
			continue
		}
		if i > 0 && s[i] == 0 {
			return 0
		}
		return i + 1
	}
	return 0
}

func checkReadVar(t *testing.T, s string) {
	n, k := impl.ReadVar(s)
	if want := varLen(s); k != want {
		t.Fatalf("ReadVar(%q) = %d, %d, want length %d", s, n, k, want)
	}
	if k == 0 && n != 0 || k > 0 && impl.Var(n) != s[:k] {
		t.Fatalf("ReadVar(%q) = %d, %d, which Var does not undo", s, n, k)
	}
}

func TestReadVarAcceptsNothingElse(t *testing.T) {
	texts(allBytes(), 2, func(s string) { checkReadVar(t, s) })
	texts("\x00\x01\x7f\x80\xff", 8, func(s string) { checkReadVar(t, s) })
}

func TestHexExamples(t *testing.T) {
	for _, c := range []struct{ s, want string }{
		{"", ""},
		{"\x00", "00"},
		{"a\xff", "61ff"},
		{"\x01\x23\x45\x67\x89\xab\xcd\xef", "0123456789abcdef"},
		{"\xc3\xa4\n", "c3a40a"},
	} {
		if got := impl.Hex(c.s); got != c.want {
			t.Errorf("Hex(%q) = %q, want %q", c.s, got, c.want)
		}
		if got, ok := impl.Unhex(c.want); got != c.s || !ok {
			t.Errorf("Unhex(%q) = %q, %t, want %q, true", c.want, got, ok, c.s)
		}
	}
}

func TestUnhexRefuses(t *testing.T) {
	for _, s := range []string{
		"0", "a", "616", "6F", "F6", "AB", "g0", "0g", "0x61", " 61", "61 ", "6 1", "61\n", "-1", "+1",
		"/0", "0/", ":0", "0:", "@0", "`0", "0`", "\x000", "0\x00", "\xff\xff", "\u0661", "61zz", "zz61",
	} {
		if got, ok := impl.Unhex(s); got != "" || ok {
			t.Errorf("Unhex(%q) = %q, %t, want the empty string, false", s, got, ok)
		}
	}
}

func TestHexInverse(t *testing.T) {
	texts(allBytes(), 2, func(s string) {
		if got, ok := impl.Unhex(impl.Hex(s)); got != s || !ok {
			t.Fatalf("Unhex(Hex(%q)) = %q, %t", s, got, ok)
		}
	})
	long := strings.Repeat(allBytes(), 50)
	if got, ok := impl.Unhex(impl.Hex(long)); got != long || !ok {
		t.Error("a long string does not return")
	}
}

func TestUnhexAcceptsNothingElse(t *testing.T) {
	const digits = "0123456789abcdef"
	texts(allBytes(), 2, func(s string) {
		got, ok := impl.Unhex(s)
		accepted := len(s)%2 == 0 && strings.Trim(s, digits) == ""
		if ok != accepted || ok && impl.Hex(got) != s || !ok && got != "" {
			t.Fatalf("Unhex(%q) = %q, %t", s, got, ok)
		}
	})
}

func TestDecExamples(t *testing.T) {
	for _, c := range []struct {
		n    int
		want string
	}{
		{0, "0"},
		{7, "7"},
		{-7, "-7"},
		{10, "10"},
		{-120, "-120"},
		{999999999, "999999999"},
		{1000000000, "1000000000"},
		{-1000000000, "-1000000000"},
		{math.MaxInt, "9223372036854775807"},
		{math.MinInt, "-9223372036854775808"},
	} {
		if got := impl.Dec(c.n); got != c.want {
			t.Errorf("Dec(%d) = %q, want %q", c.n, got, c.want)
		}
	}
}

func TestReadDecExamples(t *testing.T) {
	for _, c := range []struct {
		s    string
		want int
	}{
		{"0", 0},
		{"-7", -7},
		{"7", 7},
		{"100", 100},
		{"-120", -120},
		{"123456789", 123456789},
		{"999999999", 999999999},
		{"-999999999", -999999999},
	} {
		if got, ok := impl.ReadDec(c.s); got != c.want || !ok {
			t.Errorf("ReadDec(%q) = %d, %t, want %d, true", c.s, got, ok, c.want)
		}
	}
}

func TestReadDecRefuses(t *testing.T) {
	for _, s := range []string{
		"", "-", "+", "-0", "+0", "+1", "00", "07", "-07", "--1", "-+1", "1-", " 1", "1 ", "- 1", "1\n",
		"1_0", "0x1", "0b1", "0o7", "1e3", "1.", ".1", "1.0", "a", "1a", "a1", "/", ":", "\x00", "1\x00",
		"\xff", "\u0661", "\uff11", "\u22121", "NaN", "Inf",
		"1000000000", "-1000000000", "1234567890", "0999999999", "0000000001", "-0000000001",
		"4294967296", "4294967297", "9223372036854775807", "-9223372036854775808", "9223372036854775808",
		"18446744073709551616", "18446744073709551617", strings.Repeat("9", 10000), strings.Repeat("0", 10000) + "1",
	} {
		if got, ok := impl.ReadDec(s); got != 0 || ok {
			t.Errorf("ReadDec(%.30q) = %d, %t, want 0, false", s, got, ok)
		}
	}
}

func TestDecInverse(t *testing.T) {
	numbers := aroundPowers()
	for _, n := range spread(5000, 2000000000) {
		numbers = append(numbers, n, -n)
	}
	for n := -2000; n <= 2000; n++ {
		numbers = append(numbers, n)
	}
	for _, n := range numbers {
		got, ok := impl.ReadDec(impl.Dec(n))
		if accepted := n >= -999999999 && n <= 999999999; ok != accepted || ok && got != n || !ok && got != 0 {
			t.Fatalf("ReadDec(Dec(%d)) = %d, %t", n, got, ok)
		}
	}
}

// plainDec reports whether s is a decimal number as the document describes it, without any decoding.
func plainDec(s string) bool {
	digits := strings.TrimPrefix(s, "-")
	if digits == "" || len(digits) > 9 || strings.Trim(digits, "0123456789") != "" {
		return false
	}
	return digits[0] != '0' || s == "0"
}

func TestReadDecAcceptsNothingElse(t *testing.T) {
	see := func(s string) {
		got, ok := impl.ReadDec(s)
		if ok != plainDec(s) || ok && impl.Dec(got) != s || !ok && got != 0 {
			t.Fatalf("ReadDec(%q) = %d, %t", s, got, ok)
		}
	}
	texts(allBytes(), 2, see)
	texts("-+_ 0129a", 5, see)
	texts("-09", 11, see)
}
