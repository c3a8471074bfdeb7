package tests

import (
	"fmt"
	"math"
	"slices"
	"strconv"
	"strings"
	"testing"

	"loop.example/g01538/impl"
)

// bench executes lines one by one with the functions of the other chapters.
type bench struct {
	s impl.Shelf
	x impl.Table
}

func newBench() *bench {
	return &bench{s: impl.ShelfNew(todoOf(nil, nil, nil)), x: impl.TableNew(batches(nil, nil, nil))}
}

// plainNumber reads what Dec writes, of at most nine digits.
func plainNumber(s string) (int, bool) {
	n, err := strconv.Atoi(s)
	return n, err == nil && strconv.Itoa(n) == s && n > -1000000000 && n < 1000000000
}

func (b *bench) line(line string) string {
	words := strings.Split(line, " ")
	switch {
	case (words[0] == "do" || words[0] == "batch") && len(words) >= 3:
		w, ok := plainNumber(words[1])
		if !ok {
			return "what"
		}
		return b.queue(words[0], w, strings.SplitN(line, " ", 3)[2])
	case (words[0] == "step" || words[0] == "tstep") && (len(words) == 2 || len(words) == 3):
		w, ok := plainNumber(words[1])
		n, is := 1, true
		if len(words) == 3 {
			n, is = plainNumber(words[2])
		}
		if !ok || !is {
			return "what"
		}
		return b.steps(words[0], w, n)
	case len(words) == 1:
		return b.word(line)
	}
	return "what"
}

func (b *bench) queue(word string, w int, text string) string {
	if w < 0 || w > 2 {
		return "no"
	}
	if word == "do" {
		o, ok := impl.ReadOp(text)
		if ok && len(b.s.Todo[w].Ops) == 12 {
			return "no"
		}
		if ok {
			b.s.Todo[w].Ops = append(b.s.Todo[w].Ops, o)
			return "ok"
		}
		return "what"
	}
	x, ok := impl.ReadBatch(text)
	if ok && len(b.x.Todo[w].List) == 12 {
		return "no"
	}
	if ok {
		b.x.Todo[w].List = append(b.x.Todo[w].List, x)
		return "ok"
	}
	return "what"
}

func (b *bench) steps(word string, w int, n int) string {
	if w < 0 || w > 2 || n < 0 || n > 100 {
		return "no"
	}
	if word == "step" {
		for range n {
			b.s = impl.ShelfStep(b.s, w)
		}
		if job := b.s.Jobs[w]; job.Busy {
			return fmt.Sprint(impl.OpWord(job.Op.Kind), " ", job.Pc)
		}
		return "idle"
	}
	for range n {
		b.x = impl.TableStep(b.x, w)
	}
	if job := b.x.Jobs[w]; job.Busy {
		return impl.StepWord(job.Pc)
	}
	return "idle"
}

func (b *bench) word(word string) string {
	switch word {
	case "finish":
		b.s = impl.Finish(b.s)
		return "ok"
	case "tfinish":
		b.x = impl.TableFinish(b.x)
		return "ok"
	case "last":
		l := impl.Tells(b.s)
		if len(l) == 0 {
			return "no"
		}
		e := l[len(l)-1]
		return fmt.Sprint(e.Serial, " ", impl.CodeWord(e.Code), " ", e.Val)
	case "tlast":
		l := impl.TableTells(b.x)
		if len(l) == 0 {
			return "no"
		}
		e := l[len(l)-1]
		text := fmt.Sprint(e.Serial, " ", impl.CodeWord(e.Code))
		for _, r := range e.Res {
			text += map[bool]string{true: fmt.Sprint(" ", r.Val), false: " -"}[r.Is]
		}
		return text
	case "tally", "ttally":
		text := fmt.Sprint(impl.Tally(map[bool]impl.Base{true: b.s.Base, false: b.x.Base}[word == "tally"]))
		return "tally " + strings.Trim(text, "[]")
	case "epoch":
		return fmt.Sprint(b.s.Base.Clock.Epoch)
	case "limbo":
		return fmt.Sprint(impl.LimboSize(b.s.Base.Limbo))
	case "map":
		text := "map"
		for _, pair := range impl.TableMap(b.x) {
			text += fmt.Sprintf(" %d=%d", pair.Key, pair.Val)
		}
		return text
	}
	return "what"
}

// deskWant is the output for a script that is not too long.
func deskWant(lines []string) string {
	b, output := newBench(), ""
	for _, line := range lines {
		if line != "" {
			output += b.line(line) + "\n"
		}
	}
	return output
}

func checkDesk(t *testing.T, lines ...string) {
	t.Helper()
	want := deskWant(lines)
	for _, end := range []string{"", "\n"} {
		script := strings.Join(lines, "\n") + end
		if got := impl.Desk(script); got != want {
			t.Fatalf("Desk of %q = %q, want %q", script, got, want)
		}
	}
}

// says checks the last line of the output for the lines.
func says(t *testing.T, want string, lines ...string) {
	t.Helper()
	output := strings.Split(impl.Desk(strings.Join(lines, "\n")), "\n")
	if len(output) < 2 || output[len(output)-2] != want {
		t.Errorf("the last line of the output for %q is %q, want %q", lines, output, want)
	}
	checkDesk(t, lines...)
}

func TestDeskConstants(t *testing.T) {
	if impl.MaxLines != 60 || impl.MaxDesk != 3000 {
		t.Error("the limits are", impl.MaxLines, impl.MaxDesk)
	}
}

func TestDeskOfTheShelf(t *testing.T) {
	set := "do 0 set 1 8 500"
	says(t, "ok", set)
	says(t, "idle", "step 0")
	says(t, "set 0", set, "step 0")
	says(t, "set 1", set, "step 0 4")
	says(t, "idle", set, "step 0 7")
	says(t, "idle", set, "step 0 100")
	says(t, "idle", set, "step 0 0")
	says(t, "idle", set, "step 1")
	says(t, "set 0", set, "step 0 1", "step 0 0")
	says(t, "no", set, "last")
	says(t, "1 ok 0", set, "finish", "last")
	says(t, "2 ok 500", set, "finish", "do 2 get 1", "do 2 get 0", "step 2 9", "last")
	says(t, "1 guard 0", "do 1 peek 0", "step 1", "step 1", "step 1", "last")
	says(t, "1 none 0", "do 1 haz 1", "finish", "last")
	says(t, "3 args 0", "do 0 pin", "do 0 peek 1", "do 0 get 1", "finish", "last")
	says(t, "tally 24 0 0 0 0", "tally")
	says(t, "tally 20 3 0 0 1", set, "finish", "tally")
	says(t, "tally 20 2 0 1 1", set, set, "finish", "tally")
	says(t, "1", set, set, "finish", "limbo")
	says(t, "0", "limbo")
	says(t, "0", "epoch")
	says(t, "2", "do 0 collect", "do 0 collect", "finish", "epoch")
	says(t, "collect 0", "do 2 collect", "step 2 5")
	says(t, "collect 1", "do 2 collect", "step 2 6")
}

func TestDeskOfTheTable(t *testing.T) {
	put := "batch 2 put 4 9;add 4 2;get 5;get 4"
	says(t, "ok", put)
	says(t, "idle", "tstep 0")
	says(t, "pin", put, "tstep 2")
	says(t, "next", put, "tstep 2 4")
	says(t, "advance", "batch 0 collect", "tstep 0 2")
	says(t, "no", put, "tlast")
	says(t, "1 ok - 11 - 11", put, "tfinish", "tlast")
	says(t, "1 ok", "batch 0 collect", "tfinish", "tlast")
	says(t, "2 clash", "batch 0 put 1 1", "batch 1 get 1", "tstep 0 13", "tstep 1 100", "tlast")
	says(t, "map", "map")
	says(t, "map 4=11", put, "tfinish", "map")
	says(t, "map 3=65535 4=11 7=0", put, "tfinish", "batch 0 put 7 0;put 3 65535", "tfinish", "map")
	says(t, "tally 24 0 0 0 0", "ttally")
	says(t, "tally 22 1 0 0 1", put, "tfinish", "ttally")
	// The shelf and the table are apart from each other.
	says(t, "tally 24 0 0 0 0", put, "tfinish", "tally")
	says(t, "no", put, "finish", "tfinish", "last")
	says(t, "idle", put, "step 2 9")
	says(t, "0", "batch 0 collect", "batch 0 collect", "tfinish", "epoch")
}

func TestDeskRefuses(t *testing.T) {
	for _, line := range []string{
		"what", "x", " ", "  ", "finish ", " finish", "finish 0", "tfinish 1", "last 1", "tlast 0", "tally 0", "ttally x", "epoch 1", "limbo 0", "map 1", "Finish", "finish\r", "\x00", "\xff",
		"do", "do 0", "batch", "batch 0", "do 3", "batch 3", "step", "tstep", "step 0 1 2", "tstep 0 1 ", "step 0 ", "tstep ", "step  0", "step x", "step 0 x", "tstep 5 x", "step x 1", "step 00", "step +1", "step 0 01", "step 1000000000",
		"do 0 ", "do 0 x", "do x collect", "do  0 collect", "do 0  collect", "do 0 collect ", "do 0 get", "do 0 get 2", "do 00 collect", "do 0 put 1 2", "do 0 set 0 101 1", "do -0 collect", "do 1000000000 collect",
		"batch 0 ", "batch 0 x", "batch x collect", "batch 0 set 0 8 1", "batch 0 get 1;", "batch 0 get 1; get 2", "batch 0 get 100", "batch 0 get 1;get 1;get 1;get 1;get 1;get 1;get 1", "steps 0", "dofinish",
	} {
		says(t, "what", line)
		says(t, "what", "do 0 set 0 8 5", "batch 1 put 3 4", "step 0", "tstep 1", line)
	}
	for _, line := range []string{
		"do 3 collect", "do -1 collect", "do 3 x", "do 3 ", "do 3  ", "do 999999999 get 0", "do -999999999 x", "batch 3 collect", "batch -1 x", "batch 3 ", "step 3", "step -1", "tstep 3", "tstep -1", "step 0 101", "step 0 -1",
		"tstep 0 101", "tstep 2 -1", "step 3 101", "step 3 1", "step 999999999", "step 0 999999999", "tstep 3 0",
	} {
		says(t, "no", line)
	}
	// What is refused changes nothing.
	says(t, "set 0", "do 0 set 0 8 5", "step 0", "step 0 101", "step 0 -1", "step 3", "step 0 x", "step 0 0")
}

// Two consecutive spaces enclose an empty word, which is none of those that a line may have.
func TestTwoConsecutiveSpaces(t *testing.T) {
	for _, line := range []string{"do 0 set 1 8 5", "step 0 1", "tstep 0 1", "batch 0 put 1 2", "batch 0 put 1 2;get 1", "do 0 collect"} {
		for i := range line {
			if line[i] == ' ' {
				says(t, "what", line[:i]+" "+line[i:])
			}
		}
		says(t, "what", " "+line)
		says(t, "what", line+" ")
		says(t, "what", line+"  ")
	}
	// The empty word is the operation, or part of it, so that it is looked at after the worker.
	says(t, "no", "do 3  collect")
	says(t, "no", "batch 7  ")
	says(t, "what", "do  3 collect")
	says(t, "what", "step  3")
	says(t, "what", "step 3  101")
}

func TestFullQueuesOfTheDesk(t *testing.T) {
	for _, line := range []string{"do 1 pin", "batch 1 get 2"} {
		word := line[:strings.Index(line, " ")]
		lines := slices.Repeat([]string{line}, 12)
		says(t, "ok", lines...)
		lines = append(lines, line)
		says(t, "no", lines...)
		says(t, "what", append(lines, word+" 1 x")...)
		says(t, "no", append(lines, word+" 3 x")...)
		says(t, "ok", append(lines, strings.Replace(line, "1", "2", 1))...)
		says(t, "ok", append(lines, "step 1", "tstep 1", line)...)
		says(t, "no", append(lines, "step 1", "tstep 1", line, line)...)
	}
}

func TestLinesOfTheDesk(t *testing.T) {
	for script, want := range map[string]string{
		"": "", "\n": "", "\n\n": "", "last": "no\n", "last\n": "no\n", "last\n\n": "no\n", "\nlast": "no\n", "last\nlast": "no\nno\n", "last\n\n\nepoch\n": "no\n0\n", " ": "what\n", "last\r\n": "what\n", "last\x00": "what\n",
	} {
		if got := impl.Desk(script); got != want {
			t.Errorf("Desk of %q = %q, want %q", script, got, want)
		}
	}
	for n := range 64 {
		for line, output := range map[string]string{"": "", "map": "map\n", "x": "what\n"} {
			script := strings.Repeat(line+"\n", n)
			want := strings.Repeat(output, n)
			if n > 60 {
				want = ""
			}
			if got := impl.Desk(script); got != want {
				t.Errorf("Desk of %d lines %q = %q", n, line, got)
			}
			// One more line, which no newline ends.
			want += "0\n"
			if n > 59 {
				want = ""
			}
			if got := impl.Desk(script + "epoch"); got != want {
				t.Errorf("Desk of %d lines %q and one more = %q", n, line, got)
			}
		}
	}
	// An empty line after the last newline that counts is a line, too.
	if impl.Desk("epoch"+strings.Repeat("\n", 60)) != "0\n" || impl.Desk("epoch"+strings.Repeat("\n", 61)) != "" {
		t.Error("empty lines do not count")
	}
}

func TestBytesOfTheDesk(t *testing.T) {
	for n := 2990; n <= 3010; n++ {
		for _, end := range []string{"", "\n"} {
			script := "epoch\n" + strings.Repeat("x", n-6-len(end)) + end
			want := "0\nwhat\n"
			if n > 3000 {
				want = ""
			}
			if got := impl.Desk(script); got != want || len(script) != n {
				t.Errorf("Desk of %d bytes = %q", n, got)
			}
		}
	}
	if impl.Desk(strings.Repeat("\n", 3000)) != "" || impl.Desk(strings.Repeat("epoch\n", 100000)) != "" {
		t.Error("a script that is too long has an output")
	}
	// Bytes of several in a character count one by one.
	if impl.Desk(strings.Repeat("\u00e9", 1500)) != "what\n" || impl.Desk(strings.Repeat("\u00e9", 1500)+"x") != "" {
		t.Error("characters are counted instead of bytes")
	}
}

// scriptFrom returns lines that depend on x alone; few are refused.
func scriptFrom(x int) []string {
	var lines []string
	for i, y := range spread(58+x, 1<<40)[x:] {
		w, z := y/11%3, y/33
		switch y % 11 {
		case 0, 1:
			lines = append(lines, fmt.Sprint("do ", w, " ", impl.ShowOp(impl.Op{Kind: impl.OpSet, Cell: z % 2, Size: 1 + z/2%40, Val: z / 80 % 65536})))
		case 2:
			lines = append(lines, fmt.Sprint("do ", w, " ", impl.ShowOp(everyOp()[z%11])))
		case 3, 4:
			lines = append(lines, fmt.Sprint("batch ", w, " ", impl.ShowBatch(batch(cmdsFrom(x+i, 1+z%4)...))))
		case 5:
			lines = append(lines, fmt.Sprint("batch ", w, " collect"))
		case 6:
			lines = append(lines, fmt.Sprint("step ", w, " ", z%110))
		case 7:
			lines = append(lines, fmt.Sprint("tstep ", w, " ", z%110))
		case 8:
			lines = append(lines, fmt.Sprint([]string{"step ", "tstep "}[z%2], w))
		case 9:
			lines = append(lines, []string{"finish", "tfinish", "", "step 3", "x", "do 0  collect"}[z%6])
		default:
			lines = append(lines, []string{"last", "tlast", "tally", "ttally", "epoch", "limbo", "map"}[z%7])
		}
	}
	return lines
}

// TestOutputOfEachLine checks promise 32: one line for each line that is not empty, whatever comes after it.
func TestOutputOfEachLine(t *testing.T) {
	for x := range 60 {
		lines := scriptFrom(x)
		for len(strings.Join(lines, "\n")) > 2999 {
			lines = lines[:len(lines)-1]
		}
		checkDesk(t, lines...)
		whole := impl.Desk(strings.Join(lines, "\n"))
		n := 0
		for i, line := range lines {
			if line != "" {
				n++
			}
			part := impl.Desk(strings.Join(lines[:i+1], "\n"))
			if strings.Count(part, "\n") != n || !strings.HasPrefix(whole, part) {
				t.Fatalf("the first %d lines of script %d give %q, all give %q", i+1, x, part, whole)
			}
			// With other lines after it the output of the line is the same.
			other := slices.Concat(lines[:i+1], lines[:min(5, 60-i-1)])
			if len(strings.Join(other, "\n")) <= 3000 && !strings.HasPrefix(impl.Desk(strings.Join(other, "\n")), part) {
				t.Fatalf("the first %d lines of script %d give something else if others follow", i+1, x)
			}
		}
	}
}

func TestDeskOfAnyText(t *testing.T) {
	words := []string{"do", "batch", "step", "tstep", "0", "1", "2", "3", "-1", "", "collect", "get", "put", "x", "last", "map", "5", "finish", strconv.Itoa(math.MaxInt), "get 1;get 1"}
	for x := range 300 {
		var lines []string
		for _, y := range spread(20+x, 1<<50)[x:] {
			var line []string
			for range 1 + y%4 {
				y /= 7
				line = append(line, words[y%len(words)])
			}
			lines = append(lines, strings.Join(line, " "))
		}
		checkDesk(t, lines...)
	}
}

func TestDeskIsPure(t *testing.T) {
	pureOverAll(t, impl.Desk, pool("", "epoch", strings.Join(scriptFrom(3), "\n"), strings.Repeat("x", 3001)))
}
