package tests

import (
	"math/rand"
	"runtime"
	"slices"
	"strings"
	"sync"
	"testing"

	"loop.example/freshet/impl"
)

// deskCase is a job, logs and lines, each as lines.
type deskCase struct {
	job, items, lines []string
}

// anyDesk is a job, logs and lines; more often than not nothing of it is wrong but some lines.
func anyDesk(r *rand.Rand) deskCase {
	j := anyJob(r)
	c := deskCase{job: impl.JobPrint(j), items: linesOf(logsFor(r, j, 8))}
	for range r.Intn(40) {
		if r.Intn(5) == 0 {
			c.lines = append(c.lines, anyLine(r))
		} else {
			c.lines = append(c.lines, oneLine(r, j))
		}
	}
	if r.Intn(2) == 0 {
		c.lines = append(c.lines, "drain")
	}
	switch r.Intn(10) {
	case 0:
		c.job[r.Intn(10)] = anyText(r)
	case 1:
		c.items[r.Intn(len(c.items))] = anyText(r)
	case 2:
		c.items = several(r, 6, anyLogLine)
	}
	return c
}

// sameAnswers says whether all that is answered of a job, logs and lines is as it was told.
func sameAnswers(a, b deskAnswers) bool {
	return slices.Equal(a.run, b.run) && sameLogs(a.logs, b.logs) && a.wrong == b.wrong && slices.Equal(a.items, b.items) && slices.Equal(a.board, b.board)
}

// deskAnswers is all that is answered of a job, logs and lines.
type deskAnswers struct {
	run, items, board []string
	logs              [][]impl.ItmItem
	wrong             int
}

func (c deskCase) answers(f impl.FloFlow) deskAnswers {
	a := deskAnswers{run: impl.DskRun(c.job, c.items, c.lines), board: impl.DskBoard(f)}
	a.logs, a.wrong = impl.DskLogs(c.items)
	a.items = impl.DskItems(f.Logs)
	return a
}

func (a deskAnswers) copied() deskAnswers {
	return deskAnswers{run: slices.Clone(a.run), items: slices.Clone(a.items), board: slices.Clone(a.board), logs: flowCopy(impl.FloFlow{Logs: a.logs}).Logs, wrong: a.wrong}
}

// spoil writes over all lists of answers, up to the ends of their room.
func (a deskAnswers) spoil() {
	fill(a.run, "spoilt")
	fill(a.items, "spoilt")
	fill(a.board, "spoilt")
	for _, log := range a.logs {
		fill(log, wall(66))
	}
	fill(a.logs, times(1, wall(66)))
}

func TestLinesLeaveTheirArguments(t *testing.T) {
	r := fixed()
	for range 400 {
		c := anyDesk(r)
		was := anyFlow(r, anyJob(r))
		if r.Intn(6) == 0 {
			was = brokenFlow(r, was)
		}
		g := guardFlow(was, r.Intn(2) == 0)
		job, items, lines := guard(c.job, "behind"), guard(c.items, "behind"), guard(c.lines, "behind")
		deskCase{job: job.given, items: items.given, lines: lines.given}.answers(g.flow).spoil()
		g.check(t, "DskBoard or DskItems", was)
		job.check(t, "DskRun")
		items.check(t, "DskRun or DskLogs")
		lines.check(t, "DskRun")
	}
}

// Lines stay as they are also where they are too many, or too few.
func TestLongLinesAreLeft(t *testing.T) {
	for _, n := range []int{0, 1, 399, 400, 401, 1000} {
		logs := guard(slices.Repeat([]string{"mark 1000", "-"}, n)[:max(n-1+n%2, 0)], "behind")
		lines := guard(slices.Repeat([]string{"ask", "none"}, n)[:n], "behind")
		job := guard(plainLines(nil), "behind")
		two := guard(someLines, "behind")
		impl.DskLogs(logs.given)
		impl.DskRun(job.given, logs.given, lines.given)
		impl.DskRun(job.given, two.given, lines.given)
		impl.DskRun(lines.given, lines.given, lines.given)
		for _, g := range []guarded[string]{logs, lines, job, two} {
			g.check(t, "DskLogs or DskRun")
		}
	}
}

// An answer stays as it was, whatever is written into the arguments and into another answer.
func TestLinesAnswerInMemoryOfTheirOwn(t *testing.T) {
	r := fixed()
	for range 400 {
		c, f := anyDesk(r), anyFlow(r, anyJob(r))
		given := deskCase{job: slices.Clone(c.job), items: slices.Clone(c.items), lines: slices.Clone(c.lines)}
		flow := flowCopy(f)
		first := given.answers(flow)
		was := first.copied()
		given.answers(flow).spoil()
		if !sameAnswers(first, was) {
			t.Fatalf("%+v: an answer shares memory with another one: %+v, was %+v", c, first, was)
		}
		spoilFlow(flow)
		fill(given.job, "spoilt")
		fill(given.items, "spoilt")
		fill(given.lines, "spoilt")
		if !sameAnswers(first, was) || !sameAnswers(first, c.answers(f)) {
			t.Fatalf("%+v: an answer shares memory with an argument: %+v, was %+v", c, first, was)
		}
	}
}

// No log that is read shares memory with another one, spare room included.
func TestLogsThatAreReadAreApart(t *testing.T) {
	r := fixed()
	for range 300 {
		logs, wrong := impl.DskLogs(linesOf(slices.Concat(logsFor(r, plainSized(3, 1), 12), logsFor(r, plainSized(3, 1), 12))))
		if wrong != 0 || len(logs) != 6 {
			t.Fatal(logs, wrong)
		}
		want := flowCopy(impl.FloFlow{Logs: logs}).Logs
		for at := range logs {
			fill(logs[at], wall(60+at))
			fill(want[at], wall(60+at))
			if !sameLogs(logs, want) {
				t.Fatalf("log %d shares memory with another one: %v, not %v", at, logs, want)
			}
		}
	}
}

// Logs of an argument may be one and the same list; those of an answer may not.
func TestLinesOfLogsThatAreOne(t *testing.T) {
	one := theirLogs[0]
	lines := impl.DskItems([][]impl.ItmItem{one, one, one})
	logs, wrong := impl.DskLogs(lines)
	if wrong != 0 || len(logs) != 3 {
		t.Fatal(logs, wrong)
	}
	fill(logs[0], wall(66))
	if !slices.Equal(logs[1], one) || !slices.Equal(logs[2], one) {
		t.Fatal(logs)
	}
	job, same := plainLines(nil), slices.Repeat([]string{"mark 1000"}, 1)
	checkTells(t, "one list for all", same, same, same, "job 1")
	checkTells(t, "one list for logs and lines", job, someLines, someLines, "line 1", "line 2", "line 3", "line 4", "line 5", "line 6", "line 7", "line 8", "task 0 up to 0")
}

// The empty list and the nil list are the same value.
func TestEmptyLines(t *testing.T) {
	for _, none := range [][]string{nil, {}, make([]string, 0, 3)} {
		checkTells(t, "no lines at all", none, none, none, "job 1")
		checkTells(t, "no lines but a job's", plainLines(nil), none, none, "logs 1")
		checkTells(t, "no lines", plainLines(nil), someLines, none, "task 0 up to 0")
	}
	for _, none := range [][]impl.ItmItem{nil, {}} {
		if lines := impl.DskItems([][]impl.ItmItem{none}); len(lines) != 0 {
			t.Errorf("%q", lines)
		}
	}
	f := impl.FloNew(plainSized(1, 2), shortLogs(1))
	for at := range f.Sinks {
		f.Sinks[at] = impl.FloSink{Ready: []impl.TskTxn{}, Panes: []impl.PanPane{}, Lates: []impl.LatPair{}}
	}
	if board := checkBoard(t, f); !slices.Equal(board, []string{"task 0 up to 0", "task 1 up to 0"}) {
		t.Errorf("%q", board)
	}
}

func TestLinesAnswerTheSameEachTime(t *testing.T) {
	r := fixed()
	for range 60 {
		c, f := anyDesk(r), anyFlow(r, anyJob(r))
		was := c.answers(f)
		for range 6 {
			if again := c.answers(f); !sameAnswers(again, was) {
				t.Fatalf("%+v: %+v, was %+v", c, again, was)
			}
			for _, line := range c.lines {
				checkEvent(t, line)
			}
		}
	}
}

// Calls that are made at the same time, of the same arguments, are nothing to each other.
func TestLinesAnswerAtTheSameTime(t *testing.T) {
	r := fixed()
	for range 20 {
		c, f := anyDesk(r), anyFlow(r, anyJob(r))
		want := c.answers(f)
		got := make([]deskAnswers, 8)
		var all sync.WaitGroup
		for i := range got {
			all.Go(func() {
				got[i] = c.answers(f)
				c.answers(f).spoil()
			})
		}
		all.Wait()
		for _, a := range got {
			if !sameAnswers(a, want) {
				t.Fatalf("%+v: %+v, not %+v", c, a, want)
			}
		}
	}
}

// No goroutine is left behind.
func TestLinesLeaveNobodyAtWork(t *testing.T) {
	r := fixed()
	before := runtime.NumGoroutine()
	for range 20 {
		c := anyDesk(r)
		impl.DskRun(c.job, c.items, c.lines)
	}
	// One that has said that it is done may yet have to go.
	for n := 0; n < 10000 && runtime.NumGoroutine() > before; n++ {
		runtime.Gosched()
	}
	if after := runtime.NumGoroutine(); after > before {
		t.Fatalf("%d goroutines ahead, %d behind", before, after)
	}
}

// anyBytes is a text of any bytes, now and then a long one.
func anyBytes(r *rand.Rand) string {
	b := make([]byte, r.Intn(12))
	if r.Intn(20) == 0 {
		b = make([]byte, 90+r.Intn(30))
	}
	for i := range b {
		b[i] = byte(r.Intn(256))
	}
	return string(b)
}

func TestLinesAnswerAtEveryArgument(t *testing.T) {
	r := fixed()
	anyOf := func(r *rand.Rand) string {
		return pick(r, []func(*rand.Rand) string{anyBytes, anyText, anyLine, anyLogLine})(r)
	}
	for range 6000 {
		c := anyDesk(r)
		switch r.Intn(6) {
		case 0:
			c.job = several(r, 12, anyOf)
		case 1:
			c.items = several(r, 12, anyOf)
		case 2:
			c.job, c.items, c.lines = several(r, 12, anyOf), several(r, 12, anyOf), several(r, 12, anyOf)
		case 3:
			c.job, c.items, c.lines = c.lines, c.job, c.items
		default:
			c.lines = several(r, 12, anyOf)
		}
		quiet(t, c, func() {
			checkLinesRun(t, c.job, c.items, c.lines)
			checkLogLines(t, c.items)
			checkLogLines(t, c.lines)
			checkEvent(t, anyOf(r))
		})
	}
}

func TestBoardsAndItemsAnswerAtEveryArgument(t *testing.T) {
	r := fixed()
	for range 4000 {
		f := okOrNot(r)
		logs := several(r, 4, func(r *rand.Rand) []impl.ItmItem { return pick(r, [][]impl.ItmItem{anyItems(r, 4), aLog(r, 6), nil}) })
		quiet(t, []any{f, logs}, func() {
			checkBoard(t, f)
			checkLogs(t, f.Logs)
			checkLogs(t, logs)
		})
	}
}

func TestLinesAnswerAtLongTexts(t *testing.T) {
	for _, piece := range []string{"", " ", "0", "-", "rec 1 0 4 ", "source 0 ", "task 0 0", "drain", "\x00", "\xff", "é", "\n"} {
		for _, n := range []int{1, 20, 100, 101, 1 << 18} {
			text := strings.Repeat(piece, n)
			quiet(t, piece, func() {
				checkEvent(t, text)
				checkLogLines(t, []string{text, "mark 1000"})
				checkLinesRun(t, plainLines(nil), someLines, []string{text, "drain", text})
				checkLinesRun(t, []string{text}, []string{text}, []string{text})
				checkLinesRun(t, plainLines(nil), []string{text}, []string{text})
			})
		}
	}
}
