package tests

import (
	"hash/crc32"
	"strings"
	"testing"

	"loop.example/g01538/impl"
)

func TestCrcExamples(t *testing.T) {
	for _, c := range []struct {
		s    string
		want int
	}{
		{"", 0},
		{"123456789", 3808858755},
		{"a", 0xc1d04330},
		{"\x00", 0x527d5351},
		{strings.Repeat("\x00", 32), 0x8a9136aa},
		{strings.Repeat("\xff", 32), 0x62a8ab43},
		{allBytes()[:32], 0x46dd794e},
	} {
		if got := impl.Crc(c.s); got != c.want {
			t.Errorf("Crc(%q) = %d, want %d", c.s, got, c.want)
		}
	}
}

func checkCrc(t *testing.T, s string) {
	want := int(crc32.Checksum([]byte(s), crc32.MakeTable(crc32.Castagnoli)))
	if got := impl.Crc(s); got != want {
		t.Fatalf("Crc(%.40q) = %d, want %d", s, got, want)
	}
}

func TestCrcOfEveryByte(t *testing.T) {
	texts(allBytes(), 2, func(s string) { checkCrc(t, s) })
	texts("\x00\x01\x7f\x80\xff", 6, func(s string) { checkCrc(t, s) })
	for length := range 300 {
		checkCrc(t, strings.Repeat(allBytes(), 2)[:length])
	}
	checkCrc(t, strings.Repeat(allBytes(), 1000))
}

func TestCrcDependsOnlyOnTheBytes(t *testing.T) {
	long := allBytes()
	want := impl.Crc("34567")
	for _, s := range []string{"12345678"[2:7], strings.Join([]string{"34", "567"}, ""), string([]byte{51, 52, 53, 54, 55}), long[51:56]} {
		if got := impl.Crc(s); got != want {
			t.Errorf("Crc(%q) = %d, want %d", s, got, want)
		}
		// A call in between leaves nothing behind.
		impl.Crc(long)
	}
}

func TestCrcSeesEveryBit(t *testing.T) {
	b := []byte("a text of some length")
	want := impl.Crc(string(b))
	for bit := range 8 * len(b) {
		b[bit/8] ^= 1 << (bit % 8)
		if impl.Crc(string(b)) == want {
			t.Errorf("bit %d does not count", bit)
		}
		b[bit/8] ^= 1 << (bit % 8)
	}
}
