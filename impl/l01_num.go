package impl

import (
	"strconv"
	"strings"
)

const MaxVar = 562949953421311

const (
	mostWidth  = 7
	mostGroups = 7
	mostDec    = 999999999
	hexDigits  = "0123456789abcdef"
)

func widthOk(width int) bool {
	return width >= 1 && width <= mostWidth
}

func Fixed(n int, width int) string {
	if !widthOk(width) || n < 0 || n>>(8*width) != 0 {
		return ""
	}
	b := make([]byte, width)
	for i := width - 1; i >= 0; i-- {
		b[i] = byte(n)
		n >>= 8
	}
	return string(b)
}

func ReadFixed(s string, width int) (int, bool) {
	if !widthOk(width) || len(s) < width {
		return 0, false
	}
	n := 0
	for i := range width {
		n = n<<8 | int(s[i])
	}
	return n, true
}

func Var(n int) string {
	if n < 0 || n > MaxVar {
		return ""
	}
	b := make([]byte, 0, mostGroups)
	for n >= 128 {
		b = append(b, byte(n%128+128))
		n /= 128
	}
	return string(append(b, byte(n)))
}

func ReadVar(s string) (int, int) {
	n := 0
	for i := range min(len(s), mostGroups) {
		n |= int(s[i]%128) << (7 * i)
		if s[i] < 128 {
			return exactVar(n, s[:i+1])
		}
	}
	return 0, 0
}

// exactVar encodes n again, because needless groups also decode to a number.
func exactVar(n int, prefix string) (int, int) {
	if Var(n) != prefix {
		return 0, 0
	}
	return n, len(prefix)
}

func Hex(s string) string {
	b := make([]byte, 0, 2*len(s))
	for i := range len(s) {
		b = append(b, hexDigits[s[i]/16], hexDigits[s[i]%16])
	}
	return string(b)
}

func Unhex(s string) (string, bool) {
	if len(s)%2 != 0 {
		return "", false
	}
	b := make([]byte, 0, len(s)/2)
	for i := 0; i < len(s); i += 2 {
		high := strings.IndexByte(hexDigits, s[i])
		low := strings.IndexByte(hexDigits, s[i+1])
		if high < 0 || low < 0 {
			return "", false
		}
		b = append(b, byte(16*high+low))
	}
	return string(b), true
}

func Dec(n int) string {
	return strconv.Itoa(n)
}

func ReadDec(s string) (int, bool) {
	n, err := strconv.Atoi(s)
	// Atoi also accepts a plus sign, leading zeros and -0, which Dec never writes.
	if err != nil || n < -mostDec || n > mostDec || Dec(n) != s {
		return 0, false
	}
	return n, true
}
