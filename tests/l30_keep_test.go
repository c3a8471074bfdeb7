package tests

import (
	"slices"
	"strings"
	"testing"

	"loop.example/g01538/impl"
)

// memTextWant is the text of a valid memory.
func memTextWant(m impl.Mem) string {
	b := []byte{}
	for _, x := range m.Heap.Bytes {
		b = append(b, byte(x))
	}
	for _, c := range m.Heap.Class {
		b = append(b, byte(c+1))
	}
	for _, list := range slices.Concat(m.Lists.Global, m.Lists.Own) {
		b = append(b, byte(len(list.Slots)))
		for _, slot := range list.Slots {
			b = append(b, byte(slot))
		}
	}
	return string(b)
}

// baseTextWant is the text of a valid base.
func baseTextWant(b impl.Base) string {
	nums := []int{b.Clock.Epoch}
	flag := map[bool]int{true: 1}
	for _, p := range b.Clock.Pins {
		nums = append(nums, flag[p.On], p.Epoch, flag[p.Marked], p.Seen)
	}
	for _, list := range b.Limbo {
		nums = append(nums, len(list.Rows))
		for _, row := range list.Rows {
			nums = append(nums, row.Handle, row.Epoch)
		}
	}
	text := memTextWant(b.Mem)
	for _, n := range append(nums, b.Haz...) {
		text += impl.Var(n)
	}
	return text
}

// lateBase returns a base at the last epoch, so that its text has varints of several bytes.
func lateBase(t *testing.T) impl.Base {
	b := someBase(t)
	b.Clock = clockOf(impl.MaxEpoch, impl.Pin{On: true, Epoch: 99999, Seen: 2}, impl.Pin{On: true, Epoch: 128, Marked: true, Seen: 1}, impl.Pin{On: true, Epoch: 127})
	b.Limbo = limboOf([][2]int{{104, 100000}, {64, 16384}}, nil, [][2]int{{36, 300}})
	b.Haz = []int{215, 0, 128}
	if !impl.BaseOk(b) {
		t.Fatal("a valid base is refused:", b)
	}
	return b
}

func someBases(t *testing.T) []impl.Base {
	return append(everyNth(variedBases(), 4), impl.BaseNew(), someBase(t), lateBase(t), someTable(t).Base)
}

func TestShowBase(t *testing.T) {
	for _, b := range someBases(t) {
		text := impl.ShowMem(b.Mem)
		if text != memTextWant(b.Mem) {
			t.Fatalf("ShowMem of %+v = %q", b.Mem, text)
		}
		if m, ok := impl.ReadMem(text); !ok || !impl.SameMem(m, b.Mem) {
			t.Fatalf("ReadMem of %q = %t, %+v", text, ok, m)
		}
		text = impl.ShowBase(b)
		if text != baseTextWant(b) {
			t.Fatalf("ShowBase of %+v = %q", b, text)
		}
		if c, ok := impl.ReadBase(text); !ok || !impl.SameBase(c, b) {
			t.Fatalf("ReadBase of %q = %t, %+v", text, ok, c)
		}
	}
	want := strings.Repeat("\x00", 384+6+12)
	if got := impl.ShowMem(impl.MemNew()); got != want {
		t.Errorf("the new memory is %q", got)
	}
	if got := impl.ShowBase(impl.BaseNew()); got != want+strings.Repeat("\x00", 1+12+3+3) {
		t.Errorf("the new base is %q", got)
	}
	if got := impl.ShowBase(lateBase(t)); !strings.HasSuffix(got, "\xa0\x8d\x06"+"\x01\x9f\x8d\x06\x00\x02"+"\x01\x80\x01\x01\x01"+"\x01\x7f\x00\x00"+"\x02\x68\xa0\x8d\x06\x40\x80\x80\x01"+"\x00"+"\x01\x24\xac\x02"+"\xd7\x01\x00\x80\x01") {
		t.Errorf("the late base is %q", got)
	}
}

func TestShowOfInvalidStates(t *testing.T) {
	for i, m := range badMems(t) {
		if got := impl.ShowMem(m); got != "" {
			t.Errorf("the invalid memory %d is shown as %q", i, got)
		}
	}
	for i, b := range badBases(t) {
		if got := impl.ShowBase(b); got != "" {
			t.Errorf("the invalid base %d is shown as %q", i, got)
		}
	}
}

// refusesText checks that the text is one of no memory and no base.
func refusesText(t *testing.T, s string) {
	t.Helper()
	if m, ok := impl.ReadMem(s); ok || !sameParts(m, impl.Mem{}) {
		t.Errorf("ReadMem of %q = %+v", s, m)
	}
	if b, ok := impl.ReadBase(s); ok || !sameParts(b, impl.Base{}) {
		t.Errorf("ReadBase of %q = %+v", s, b)
	}
}

func TestOneExtraByte(t *testing.T) {
	for _, b := range []impl.Base{impl.BaseNew(), someBase(t), lateBase(t)} {
		mem, base := impl.ShowMem(b.Mem), impl.ShowBase(b)
		for x := range 256 {
			extra := string([]byte{byte(x)})
			refusesText(t, mem+extra)
			refusesText(t, base+extra)
		}
		refusesText(t, mem+mem)
		refusesText(t, base+base)
		// A byte before or in the text moves the others; what is read then is shown as it was read.
		for i := range len(base) {
			for _, x := range []byte{0, 1, 128, 171, 255} {
				checkText(t, base[:i]+string([]byte{x})+base[i:])
				if i <= len(mem) {
					checkText(t, mem[:i]+string([]byte{x})+mem[i:])
				}
			}
		}
	}
}

func TestPartsOfTexts(t *testing.T) {
	for _, b := range []impl.Base{impl.BaseNew(), someBase(t), lateBase(t)} {
		mem, base := impl.ShowMem(b.Mem), impl.ShowBase(b)
		for i := range len(base) {
			if i != len(mem) {
				refusesText(t, base[:i])
			}
			checkText(t, base[i:])
			checkText(t, base[:i]+base[i+1:])
		}
		if _, ok := impl.ReadMem(base[:len(mem)]); !ok {
			t.Error("a base does not start with its memory")
		}
		if _, ok := impl.ReadBase(mem); ok {
			t.Error("a memory is read as a base")
		}
	}
	refusesText(t, "")
}

// checkText checks that what is read, if anything, is valid and shown as it was.
func checkText(t *testing.T, s string) {
	t.Helper()
	if m, ok := impl.ReadMem(s); ok != impl.MemOk(m) || ok && memTextWant(m) != s {
		t.Fatalf("ReadMem of %q = %t, %+v", s, ok, m)
	}
	if b, ok := impl.ReadBase(s); ok != impl.BaseOk(b) || ok && baseTextWant(b) != s {
		t.Fatalf("ReadBase of %q = %t, %+v", s, ok, b)
	}
}

// TestChangedTexts checks promise 30 for all texts that differ from one of a state in one byte.
func TestChangedTexts(t *testing.T) {
	read := 0
	for _, b := range []impl.Base{impl.BaseNew(), someBase(t), lateBase(t)} {
		base := impl.ShowBase(b)
		end := len(impl.ShowMem(b.Mem))
		for i := range len(base) {
			for x := range 256 {
				if i < 300 && x%16 != i%16 && x != 1 {
					continue
				}
				s := base[:i] + string([]byte{byte(x)}) + base[i+1:]
				checkText(t, s)
				if i < end {
					checkText(t, s[:end])
				}
				if _, ok := impl.ReadBase(s); ok && s != base {
					read++
				}
			}
		}
	}
	if read < 100 {
		t.Error("only so many other texts are those of bases:", read)
	}
}

// Numbers that are written with needless bytes, lengths that no list has, and flags that are neither 0 nor 1.
func TestTextsOfNoState(t *testing.T) {
	base := impl.ShowBase(impl.BaseNew())
	at := len(impl.ShowMem(impl.MemNew()))
	for i := 390; i < len(base); i++ {
		for _, x := range []string{"\x80\x00", "\x80\x80\x00", "\x81\x00", "\xff\xff\xff\xff\xff\xff\x7f", "\xff\xff\xff\xff\xff\xff\xff\x7f", "\x80\x80\x80\x80\x10", ""} {
			s := base[:i] + x + base[i+1:]
			refusesText(t, s)
			if x != "" {
				refusesText(t, base[:i]+x)
			}
			if i < at {
				refusesText(t, s[:len(s)-len(base)+at])
			}
		}
	}
	on := impl.BaseNew()
	on.Clock, _ = impl.PinTo(on.Clock, 0, 0)
	text := impl.ShowBase(on)
	for x := 2; x < 128; x++ {
		refusesText(t, text[:at+1]+string([]byte{byte(x)})+text[at+2:])
		refusesText(t, text[:at+3]+string([]byte{byte(x)})+text[at+4:])
	}
}

// TestRestoredStates checks promise 30: a base that was written and read goes on as the one that was not.
func TestRestoredStates(t *testing.T) {
	for i := range 12 {
		s := impl.ShelfNew(todoFrom(i))
		x := impl.TableNew(batchesFrom(i))
		restored, kept := copyOfShelf(s), copyOfTable(x)
		for step, y := range spread(250+i, 1<<40)[i:] {
			s, restored = impl.ShelfStep(s, y%3), impl.ShelfStep(restored, y%3)
			x, kept = impl.TableStep(x, y%3), impl.TableStep(kept, y%3)
			if step%5 == 0 {
				var ok, is bool
				restored.Base, ok = impl.ReadBase(impl.ShowBase(restored.Base))
				kept.Base, is = impl.ReadBase(impl.ShowBase(kept.Base))
				if !ok || !is {
					t.Fatalf("step %d of schedule %d: %t, %t", step, i, ok, is)
				}
			}
			if !impl.SameShelf(s, restored) || !impl.SameTable(x, kept) {
				t.Fatalf("step %d of schedule %d differs after a restored state", step, i)
			}
		}
	}
}

func TestKeepsArePure(t *testing.T) {
	bases := pool(append(everyNth(badBases(t), 9), someBase(t), lateBase(t), impl.BaseNew())...)
	mems := pool(append(everyNth(badMems(t), 9), someMem(t), impl.MemNew())...)
	pureOverAll(t, impl.ShowMem, mems)
	pureOverAll(t, impl.ShowBase, bases)
	all := pool("", "x", impl.ShowMem(someMem(t)), impl.ShowBase(someBase(t)), impl.ShowBase(lateBase(t))+"\x00", impl.ShowBase(impl.BaseNew()))
	pureOverAll(t, impl.ReadMem, all)
	pureOverAll(t, impl.ReadBase, all)
}
