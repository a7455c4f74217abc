package tests

import (
	"fmt"
	"math/rand"
	"regexp"
	"strconv"
	"strings"
	"testing"

	"loop.example/freshet/impl"
)

func TestNumbersOfLines(t *testing.T) {
	if impl.DskMaxLines != 400 {
		t.Error(impl.DskMaxLines)
	}
}

// eventWord is a word that a line of an event begins with, its kind, and how many numbers are behind it.
type eventWord struct {
	word        string
	kind, count int
}

var eventWords = []eventWord{
	{"source", impl.EvSrc, 1}, {"task", impl.EvTask, 2}, {"ask", impl.EvAsk, 0}, {"save", impl.EvSave, 0},
	{"drop", impl.EvDrop, 0}, {"commit", impl.EvCommit, 1}, {"crash", impl.EvCrash, 0},
}

var eventForm = regexp.MustCompile(`\A(?:(source|commit) (0|[1-9][0-9]{0,6})|(task) (0|[1-9][0-9]{0,6}) (0|[1-9][0-9]{0,6})|(ask|save|drop|crash))\z`)

// eventIn says the same as DskEvent, from the document's words.
func eventIn(line string) (impl.EvEvent, bool) {
	parts := eventForm.FindStringSubmatch(line)
	if parts == nil || len(line) > 100 {
		return impl.EvEvent{}, false
	}
	var e impl.EvEvent
	for _, w := range eventWords {
		if w.word == parts[1]+parts[3]+parts[6] {
			e.Kind = w.kind
		}
	}
	e.At, _ = strconv.Atoi("0" + parts[2] + parts[4])
	e.In, _ = strconv.Atoi("0" + parts[5])
	return e, true
}

// checkEvent holds DskEvent against the document's words.
func checkEvent(t *testing.T, line string) bool {
	t.Helper()
	got, ok := impl.DskEvent(line)
	if want, is := eventIn(line); got != want || ok != is {
		t.Fatalf("%q: %+v %v, not %+v %v", line, got, ok, want, is)
	}
	return ok
}

// checkNoEvent holds lines against that they are none.
func checkNoEvent(t *testing.T, lines ...string) {
	t.Helper()
	for _, line := range lines {
		if e, ok := impl.DskEvent(line); ok || e != (impl.EvEvent{}) || checkEvent(t, line) {
			t.Errorf("%q: %+v %v", line, e, ok)
		}
	}
}

// lineOf is the line of an event; empty, if it has none.
func lineOf(e impl.EvEvent) string {
	switch e.Kind {
	case impl.EvSrc:
		return fmt.Sprintf("source %d", e.At)
	case impl.EvTask:
		return fmt.Sprintf("task %d %d", e.At, e.In)
	case impl.EvAsk:
		return "ask"
	case impl.EvSave:
		return "save"
	case impl.EvDrop:
		return "drop"
	case impl.EvCommit:
		return fmt.Sprintf("commit %d", e.At)
	case impl.EvCrash:
		return "crash"
	}
	return ""
}

// eventLines is lines of events, of each word, with some numbers.
func eventLines() []string {
	numbers := []int{0, 1, 2, 3, 9, 10, 40, 100, 999, 1000, 999999, 1000000, 1234567, 9999999}
	lines := []string{"ask", "save", "drop", "crash"}
	for _, at := range numbers {
		lines = append(lines, lineOf(atSource(at)), lineOf(atSink(at)))
		for _, in := range numbers {
			lines = append(lines, lineOf(atTask(at, in)))
		}
	}
	return lines
}

func TestP77EachWord(t *testing.T) {
	for line, want := range map[string]impl.EvEvent{
		"source 0": atSource(0), "source 2": atSource(2), "source 9999999": atSource(9999999),
		"task 0 0": atTask(0, 0), "task 1 2": atTask(1, 2), "task 2 1": atTask(2, 1), "task 9999999 1234567": atTask(9999999, 1234567), "task 0 9999999": atTask(0, 9999999),
		"commit 0": atSink(0), "commit 1": atSink(1), "commit 9999999": atSink(9999999),
		"ask": toAsk, "save": toSave, "drop": toDrop, "crash": toCrash,
	} {
		if e, ok := impl.DskEvent(line); e != want || !ok || !checkEvent(t, line) {
			t.Errorf("%q: %+v %v, not %+v", line, e, ok, want)
		}
	}
	for _, line := range eventLines() {
		if e, ok := impl.DskEvent(line); !ok || lineOf(e) != line || !checkEvent(t, line) {
			t.Errorf("%q: %+v %v", line, e, ok)
		}
	}
}

// Each word with as many numbers as it has, and with any other number of them.
func TestP77HowManyNumbers(t *testing.T) {
	for _, w := range eventWords {
		for n := range 12 {
			for _, number := range []string{" 0", " 1", " 7", " 9999999"} {
				line := w.word + strings.Repeat(number, n)
				if n != w.count {
					checkNoEvent(t, line)
				} else if !checkEvent(t, line) {
					t.Errorf("%q is none", line)
				}
			}
		}
	}
}

func TestP77ThreeNumbersMore(t *testing.T) {
	for _, line := range append(eventLines(), "drain") {
		for _, more := range []string{" 0 0 0", " 1 2 3", " 0 1 2", " -1 -1 -1", " 9999999 0 9999999", " 12345678 1 1", " 00 0 +1"} {
			checkNoEvent(t, line+more, line+more+more)
		}
	}
	for s := range allTexts() {
		checkNoEvent(t, s, s+" 1 2 3")
	}
}

// A line that is none stays so with three numbers more.
func TestP77ThreeNumbersMoreBehindAnyLine(t *testing.T) {
	r := fixed()
	for range 20000 {
		line := anyLine(r)
		checkEvent(t, line)
		checkNoEvent(t, fmt.Sprintf("%s %d %d %d", line, r.Intn(4), r.Intn(1000), r.Intn(20000000)-5000000))
	}
}

func TestP77WhichNumbersAreOnes(t *testing.T) {
	for _, number := range []string{"0", "1", "9", "10", "90", "100", "999999", "1000000", "1234567", "9000000", "9999999"} {
		for _, line := range []string{"source " + number, "commit " + number, "task " + number + " 0", "task 0 " + number, "task " + number + " " + number} {
			if !checkEvent(t, line) {
				t.Errorf("%q is none", line)
			}
		}
	}
	for _, number := range []string{
		"", "-", "+", "-1", "-2", "-0", "-9999999", "-10000000", "--1", "+0", "+1", "+9999999", "00", "01", "007", "000", "0000001", "0000000", "00000001", "-01",
		"10000000", "12345678", "99999999", "100000000", "2147483648", "4294967296", "4294967297", "9223372036854775807", "9223372036854775808", "18446744073709551615", "18446744073709551616", "18446744073709551617",
		"x", "one", "a", "1a", "a1", "1.0", "1.", ".1", "1e0", "0x1", "0b1", "0o1", "1_0", "1,0", "1/1", "1:", "/1", "١", "１", "\xff", "1\xff", "\x00", "1\x00", "1\n", "\n1", "1\r", "1\t", "\t1", "1\u00a0", "\ufeff1",
	} {
		checkNoEvent(t, "source "+number, "commit "+number, "task "+number+" 0", "task 0 "+number, "task "+number+" "+number)
		if number != "" {
			checkNoEvent(t, "ask"+number, "ask "+number, "save "+number, "drop "+number, "crash "+number)
		}
	}
}

func TestP77WhichWordsAreNone(t *testing.T) {
	for _, word := range []string{
		"", "-", "0", "1", "drain", "drained", "Source", "SOURCE", "sources", "sourc", "ource", "sauce", "src", "tasks", "tas", "Task", "tsk", "asks", "as", "a", "Ask", "saves", "sav", "saved", "drops", "dro", "Drop",
		"commits", "commi", "Commit", "sink", "crashes", "cras", "Crash", "run", "step", "line", "job", "logs", "long", "rec", "mark", "wall", "none", "\x00", "\xff", "source\x00", "source\xff", "sourсe", "task\t", "\u00e9",
	} {
		checkNoEvent(t, word, word+" 0", word+" 0 0", word+" 0 0 0", word+" 1 0 4")
	}
}

func TestP77WhereSpacesAre(t *testing.T) {
	checkNoEvent(t, "", " ", "  ", "   ")
	for _, line := range []string{"source 1", "task 1 2", "ask", "save", "drop", "commit 0", "crash", "drain"} {
		checkNoEvent(t, " "+line, line+" ", " "+line+" ", "  "+line, line+"  ", "\t"+line, line+"\t", line+"\n", "\n"+line, line+"\r\n", line+"\x00")
		if at := strings.IndexByte(line, ' '); at >= 0 {
			for _, between := range []string{"", "  ", "   ", "\t", "\n", "\u00a0", "_", "-", ",", " \t"} {
				checkNoEvent(t, line[:at]+between+line[at+1:])
			}
		}
	}
	checkNoEvent(t, "task 1  2", "task  1 2", "task 1\t2", "task 12", "task 1 2 ", "task  1  2", "source 1 source 1", "ask ask", "ask save")
}

func TestP77HowLongALineIs(t *testing.T) {
	for _, w := range eventWords {
		for _, size := range []int{99, 100, 101, 102, 1 << 20} {
			for _, with := range []string{" ", "0", "1", " 0", "\x00", "x"} {
				line := w.word + strings.Repeat(with, size)
				checkNoEvent(t, line[:size], (w.word + " " + line)[:size], strings.Repeat(" ", size-len(w.word))+w.word)
			}
			ahead := strings.Repeat("0", size-len(w.word)-2)
			checkNoEvent(t, w.word+" "+ahead+"1", w.word+" 0 "+ahead[1:])
		}
	}
}

// anyLine is a line of an event, nearly one, or of any bytes.
func anyLine(r *rand.Rand) string {
	pieces := []string{" ", " ", " ", " ", "source", "task", "ask", "save", "drop", "commit", "crash", "drain", "0", "1", "2", "7", "9999999", "-", "+", "\x00", "\xff", "\n", "é"}
	if r.Intn(3) == 0 {
		w := pick(r, eventWords)
		line := w.word
		for range w.count {
			line += " " + strconv.Itoa(r.Intn(3))
		}
		return line
	}
	var b strings.Builder
	for range r.Intn(8) {
		if r.Intn(12) == 0 {
			b.WriteByte(byte(r.Intn(256)))
		} else {
			b.WriteString(pick(r, pieces))
		}
	}
	return b.String()
}

func TestP77NearEachLine(t *testing.T) {
	for _, line := range []string{"source 0", "source 10", "task 1 0", "task 0 9999999", "ask", "save", "drop", "commit 1", "crash", "drain", ""} {
		for _, s := range near(line) {
			checkEvent(t, s)
		}
	}
}

func TestP77AnyLine(t *testing.T) {
	r := fixed()
	ones := 0
	for range 100000 {
		if checkEvent(t, anyLine(r)) {
			ones++
		}
		checkEvent(t, anyText(r))
	}
	if ones < 1000 {
		t.Fatalf("%d lines were ones", ones)
	}
}
