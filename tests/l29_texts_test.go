package tests

import (
	"math"
	"regexp"
	"slices"
	"strconv"
	"strings"
	"testing"

	"loop.example/g01538/impl"
)

const (
	upTo99  = `(0|[1-9][0-9]?)`
	upTo16b = `(0|[1-9][0-9]{0,4})`
)

var (
	setForm  = regexp.MustCompile(`^set ([01]) (0|[1-9][0-9]?|100) ` + upTo16b + `$`)
	cellForm = regexp.MustCompile(`^(get|haz|peek) ([01])$`)
	bareForm = regexp.MustCompile(`^(collect|pin|unpin)$`)
	putForm  = regexp.MustCompile(`^(put|add) ` + upTo99 + ` ` + upTo16b + `$`)
	keyForm  = regexp.MustCompile(`^(get|del) ` + upTo99 + `$`)
)

func number(s string) int {
	n, _ := strconv.Atoi(s)
	return n
}

// readOpWant reads an operation with regular expressions.
func readOpWant(s string) (impl.Op, bool) {
	kinds := map[string]int{"get": impl.OpGet, "haz": impl.OpHaz, "peek": impl.OpPeek, "collect": impl.OpCollect, "pin": impl.OpPin, "unpin": impl.OpUnpin}
	if m := setForm.FindStringSubmatch(s); m != nil && number(m[3]) <= 65535 {
		return impl.Op{Kind: impl.OpSet, Cell: number(m[1]), Size: number(m[2]), Val: number(m[3])}, true
	}
	if m := cellForm.FindStringSubmatch(s); m != nil {
		return impl.Op{Kind: kinds[m[1]], Cell: number(m[2])}, true
	}
	if m := bareForm.FindStringSubmatch(s); m != nil {
		return impl.Op{Kind: kinds[m[1]]}, true
	}
	return impl.Op{}, false
}

func readCmdWant(s string) (impl.Cmd, bool) {
	kinds := map[string]int{"get": impl.CmGet, "put": impl.CmPut, "del": impl.CmDel, "add": impl.CmAdd}
	if m := putForm.FindStringSubmatch(s); m != nil && number(m[3]) <= 65535 {
		return impl.Cmd{Kind: kinds[m[1]], Key: number(m[2]), Val: number(m[3])}, true
	}
	if m := keyForm.FindStringSubmatch(s); m != nil {
		return impl.Cmd{Kind: kinds[m[1]], Key: number(m[2])}, true
	}
	return impl.Cmd{}, false
}

func readBatchWant(s string) (impl.Batch, bool) {
	if s == "collect" {
		return impl.Batch{Collect: true}, true
	}
	parts := strings.Split(s, ";")
	if len(parts) > 6 {
		return impl.Batch{}, false
	}
	var cmds []impl.Cmd
	for _, part := range parts {
		c, ok := readCmdWant(part)
		if !ok {
			return impl.Batch{}, false
		}
		cmds = append(cmds, c)
	}
	return batch(cmds...), true
}

// checkRead compares what the functions of the chapter read with the description above, and shows it again.
func checkRead(t *testing.T, s string) {
	t.Helper()
	o, ok := impl.ReadOp(s)
	if want, is := readOpWant(s); o != want || ok != is || ok && impl.ShowOp(o) != s {
		t.Fatalf("ReadOp of %q = %+v, %t, want %+v, %t", s, o, ok, want, is)
	}
	c, ok := impl.ReadCmd(s)
	if want, is := readCmdWant(s); c != want || ok != is || ok && impl.ShowCmd(c) != s {
		t.Fatalf("ReadCmd of %q = %+v, %t, want %+v, %t", s, c, ok, want, is)
	}
	b, ok := impl.ReadBatch(s)
	if want, is := readBatchWant(s); !sameParts(b, want) || ok != is || ok && impl.ShowBatch(b) != s {
		t.Fatalf("ReadBatch of %q = %+v, %t, want %+v, %t", s, b, ok, want, is)
	}
}

func TestShowOp(t *testing.T) {
	for s, o := range map[string]impl.Op{
		"set 1 8 500": {Kind: impl.OpSet, Cell: 1, Size: 8, Val: 500}, "set 0 0 0": {Kind: impl.OpSet}, "set 1 100 65535": {Kind: impl.OpSet, Cell: 1, Size: 100, Val: 65535},
		"get 0": {Kind: impl.OpGet}, "get 1": {Kind: impl.OpGet, Cell: 1}, "haz 0": {Kind: impl.OpHaz}, "haz 1": {Kind: impl.OpHaz, Cell: 1},
		"peek 0": {Kind: impl.OpPeek}, "peek 1": {Kind: impl.OpPeek, Cell: 1}, "collect": {Kind: impl.OpCollect}, "pin": {Kind: impl.OpPin}, "unpin": {Kind: impl.OpUnpin},
	} {
		if got := impl.ShowOp(o); got != s {
			t.Errorf("ShowOp of %+v = %q, want %q", o, got, s)
		}
		checkRead(t, s)
	}
	for _, o := range []impl.Op{
		{}, {Kind: 8}, {Kind: -1}, {Kind: math.MaxInt}, {Kind: impl.OpSet, Cell: 2}, {Kind: impl.OpSet, Size: 101}, {Kind: impl.OpSet, Val: 65536}, {Kind: impl.OpSet, Val: -1},
		{Kind: impl.OpGet, Cell: -1}, {Kind: impl.OpGet, Val: 1}, {Kind: impl.OpHaz, Size: 1}, {Kind: impl.OpCollect, Cell: 1}, {Kind: impl.OpPin, Val: 1}, {Kind: impl.OpUnpin, Size: 1},
	} {
		if got := impl.ShowOp(o); got != "" {
			t.Errorf("ShowOp of the invalid operation %+v = %q", o, got)
		}
	}
}

func TestShowCmd(t *testing.T) {
	for s, c := range map[string]impl.Cmd{
		"get 0": get(0), "get 99": get(99), "put 7 500": put(7, 500), "put 0 0": put(0, 0), "put 99 65535": put(99, 65535), "del 4": del(4), "del 0": del(0), "add 10 1": add(10, 1), "add 9 0": add(9, 0),
	} {
		if got := impl.ShowCmd(c); got != s {
			t.Errorf("ShowCmd of %+v = %q, want %q", c, got, s)
		}
		checkRead(t, s)
	}
	for _, c := range badCmds() {
		if got := impl.ShowCmd(c); got != "" {
			t.Errorf("ShowCmd of the invalid command %+v = %q", c, got)
		}
	}
}

func TestShowBatch(t *testing.T) {
	for s, b := range map[string]impl.Batch{
		"collect": collect, "get 4": batch(get(4)), "put 1 2;add 4 3": batch(put(1, 2), add(4, 3)),
		"get 0;put 99 65535;del 50;add 0 0;put 0 0;add 99 65535": fullBatch(),
	} {
		if got := impl.ShowBatch(b); got != s {
			t.Errorf("ShowBatch of %+v = %q, want %q", b, got, s)
		}
		checkRead(t, s)
	}
	for _, b := range badBatches() {
		if got := impl.ShowBatch(b); got != "" {
			t.Errorf("ShowBatch of the invalid batch %+v = %q", b, got)
		}
	}
}

// The number of words is that of the kind: one more or one less, before or after, is refused.
func TestExtraWord(t *testing.T) {
	for _, o := range everyOp() {
		s := impl.ShowOp(o)
		for _, other := range []string{s + " 0", s + " 1", s + " x", s + " ", " " + s, "0 " + s, s + "  0", strings.Replace(s, " ", "  ", 1) + " ", s + " " + s, s[:max(strings.LastIndex(s, " "), 0)]} {
			if got, ok := impl.ReadOp(other); ok || got != (impl.Op{}) {
				t.Errorf("ReadOp of %q = %+v", other, got)
			}
			checkRead(t, other)
		}
	}
	for _, c := range []impl.Cmd{get(1), put(1, 2), del(3), add(4, 5)} {
		s := impl.ShowCmd(c)
		for _, other := range []string{s + " 0", s + " x", s + " ", " " + s, "0 " + s, s + "  0", strings.Replace(s, " ", "  ", 1), s + ";", ";" + s, s + ";;" + s, s + "; " + s, s + " ;" + s, s + ";collect", "collect;" + s, s[:strings.LastIndex(s, " ")]} {
			if got, ok := impl.ReadCmd(other); ok || got != (impl.Cmd{}) {
				t.Errorf("ReadCmd of %q = %+v", other, got)
			}
			if got, ok := impl.ReadBatch(other); ok || !sameParts(got, impl.Batch{}) {
				t.Errorf("ReadBatch of %q = %+v", other, got)
			}
			checkRead(t, other)
		}
	}
	for n := 1; n <= 9; n++ {
		s := strings.Join(slices.Repeat([]string{"get 1"}, n), ";")
		if _, ok := impl.ReadBatch(s); ok != (n <= 6) {
			t.Errorf("ReadBatch of %d commands = %t", n, ok)
		}
		checkRead(t, s)
		checkRead(t, s+";x")
		checkRead(t, s+";collect")
	}
}

func TestNumbersOfTexts(t *testing.T) {
	nums := []string{"", "0", "1", "2", "9", "00", "01", "10", "99", "100", "101", "-0", "-1", "+1", "1.0", "0x1", "1e2", "65535", "65536", "065535", "999999999", "1000000000", "99999999999999999999", "a", "\x00", "\u0661", " 1", "1 "}
	for _, n := range nums {
		for _, form := range []string{"set # 8 5", "set 1 # 5", "set 1 8 #", "get #", "haz #", "peek #", "collect #", "pin #", "put # 5", "put 5 #", "add # 5", "add 5 #", "del #", "get 1;get #", "put # 1;del 3", "#", "get#"} {
			checkRead(t, strings.Replace(form, "#", n, 1))
		}
	}
}

// TestTextsAcceptNothingElse checks promise 29 for the texts that differ little from those of valid values, and for short ones.
func TestTextsAcceptNothingElse(t *testing.T) {
	const letters = " 0159-;\x00\xff\xc3setghazpkcolinudGS\n\t"
	good := []string{"", "set 1 8 500", "set 0 100 65535", "get 1", "haz 0", "peek 1", "collect", "pin", "unpin", "get 99", "put 7 65535", "del 50", "add 10 1", "get 1;del 2", "put 9 9;collect"}
	for _, s := range good {
		for i := range len(s) + 1 {
			for _, x := range []byte(letters) {
				checkRead(t, s[:i]+string([]byte{x})+s[i:])
				if i < len(s) {
					checkRead(t, s[:i]+string([]byte{x})+s[i+1:])
				}
			}
			checkRead(t, s[:i])
			checkRead(t, s[i:])
			if i < len(s) {
				checkRead(t, s[:i]+s[i+1:])
			}
		}
	}
	texts("pin 1;\xff", 5, func(s string) { checkRead(t, s) })
	long := strings.Repeat("get 1;", 20000)
	checkRead(t, long)
	checkRead(t, long[:len(long)-1])
	checkRead(t, strings.Repeat("get ", 20000)+"1")
	checkRead(t, "get "+strings.Repeat("1", 20000))
}

func TestTextsOfAllValues(t *testing.T) {
	for key := range 100 {
		for _, c := range []impl.Cmd{get(key), del(key), put(key, 600*key), add(key, 65535-key)} {
			if got, ok := impl.ReadCmd(impl.ShowCmd(c)); !ok || got != c {
				t.Errorf("%+v is read as %+v", c, got)
			}
		}
		for cell := range 2 {
			o := impl.Op{Kind: impl.OpSet, Cell: cell, Size: key + 1, Val: 655 * key}
			if got, ok := impl.ReadOp(impl.ShowOp(o)); !ok || got != o {
				t.Errorf("%+v is read as %+v", o, got)
			}
		}
	}
	for val := 0; val <= 65535; val += 7 {
		if got, ok := impl.ReadCmd(impl.ShowCmd(put(3, val))); !ok || got != put(3, val) {
			t.Errorf("%d is read as %+v", val, got)
		}
	}
	for x := range 200 {
		b := batch(cmdsFrom(x, 1+x%6)...)
		if got, ok := impl.ReadBatch(impl.ShowBatch(b)); !ok || !sameParts(got, b) {
			t.Errorf("%+v is read as %+v", b, got)
		}
	}
}

func TestTextsArePure(t *testing.T) {
	pureOverAll(t, impl.ShowOp, pool(append(everyOp(), impl.Op{})...))
	pureOverAll(t, impl.ShowCmd, pool(append(badCmds(), get(1), put(2, 3))...))
	pureOverAll(t, impl.ShowBatch, pool(append(goodBatches(), badBatches()...)...))
	all := pool("", "set 1 8 500", "get 1", "get 1;put 2 3", "collect", "get 1;get 2;get 3;get 4;get 5;get 6;get 7", "x")
	pureOverAll(t, impl.ReadOp, all)
	pureOverAll(t, impl.ReadCmd, all)
	pureOverAll(t, impl.ReadBatch, all)
}
