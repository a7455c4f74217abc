package tests

import (
	"fmt"
	"math/rand"
	"slices"
	"strings"
	"testing"

	"loop.example/freshet/impl"
)

// behindLines is a flow from its beginning on behind lines, and which of them are none, from 1 on: from the document's words.
func behindLines(j impl.JobJob, logs [][]impl.ItmItem, lines []string) (impl.FloFlow, []int) {
	f := impl.FloNew(j, logs)
	var nones []int
	for i, line := range lines {
		e, ok := eventIn(line)
		switch {
		case line == "drain":
			f = impl.FloDrain(f, 400)
		case ok:
			f = impl.FloStep(f, e)
		default:
			nones = append(nones, i+1)
		}
	}
	return f, nones
}

// toldBehind says the same as DskRun, from the document's words.
func toldBehind(job, items, lines []string) []string {
	j, wrong := impl.JobParse(job)
	if wrong != 0 {
		return []string{fmt.Sprintf("job %d", wrong)}
	}
	logs, wrong := logsIn(items)
	if wrong != 0 || len(logs) != j.Sources {
		return []string{fmt.Sprintf("logs %d", wrong)}
	}
	if len(lines) > 400 {
		return []string{"long"}
	}
	f, nones := behindLines(j, logs, lines)
	var told []string
	for _, n := range nones {
		told = append(told, fmt.Sprintf("line %d", n))
	}
	return append(told, boardOf(f)...)
}

// checkLinesRun holds DskRun against the document's words.
func checkLinesRun(t *testing.T, job, items, lines []string) []string {
	t.Helper()
	got := impl.DskRun(job, items, lines)
	if want := toldBehind(job, items, lines); !slices.Equal(got, want) {
		t.Fatalf("%q, %q, %q: %q, not %q", job, items, lines, got, want)
	}
	return got
}

// checkTells holds DskRun against the lines that it is to answer.
func checkTells(t *testing.T, name string, job, items, lines []string, want ...string) {
	t.Helper()
	if got := checkLinesRun(t, job, items, lines); !slices.Equal(got, want) {
		t.Errorf("%s: %q, not %q", name, got, want)
	}
}

// exampleLines is the lines of the document's example.
func exampleLines() []string {
	return []string{
		"source 0", "source 0", "source 1", "source 1", "task 0 0", "task 0 1", "task 0 0", "task 0 1", "ask", "source 0", "source 1", "task 0 0", "source 0", "task 0 1", "save", "crash", "commit 0",
		"source 0", "task 0 0", "crash", "drain",
	}
}

func TestP79TheDocumentsRun(t *testing.T) {
	checkTells(t, "the example", plainLines(nil), someLines, exampleLines(),
		"task 0 up to 3", "key 0 window 1..6 pane 0 timely 4", "key 0 window 1..6 pane 1 gone", "key 0 window 1..14 pane 0 timely 9")
}

func TestP79TheDocumentsRunUpToEachLine(t *testing.T) {
	for n := range len(exampleLines()) + 1 {
		want := []string{"task 0 up to 0"}
		switch {
		case n == 21:
			want = []string{"task 0 up to 3", "key 0 window 1..6 pane 0 timely 4", "key 0 window 1..6 pane 1 gone", "key 0 window 1..14 pane 0 timely 9"}
		case n >= 17:
			want = []string{"task 0 up to 1", "key 0 window 1..6 pane 0 timely 4"}
		}
		checkTells(t, fmt.Sprint(n), plainLines(nil), someLines, exampleLines()[:n], want...)
	}
}

func TestP79NoLines(t *testing.T) {
	for _, j := range sizedJobs() {
		want := []string{"task 0 up to 0", "task 1 up to 0"}[:j.Tasks]
		for _, none := range [][]string{nil, {}, make([]string, 0, 5)} {
			checkTells(t, "no lines", impl.JobPrint(j), linesOf(someLogs(j)), none, want...)
		}
	}
}

// oneLine is a line that happens: one that fits, more often than not, else one of another place.
func oneLine(r *rand.Rand, j impl.JobJob) string {
	for {
		if line := lineOf(anyEvent(r, j)); checkedAsOne(line) {
			return line
		}
	}
}

func checkedAsOne(line string) bool {
	_, ok := eventIn(line)
	return ok
}

// linesThatHappen is so many lines that happen, `drain` among them about so often in a hundred.
func linesThatHappen(r *rand.Rand, j impl.JobJob, n, drains int) []string {
	lines := make([]string, n)
	for i := range lines {
		lines[i] = oneLine(r, j)
		if r.Intn(100) < drains {
			lines[i] = "drain"
		}
	}
	return lines
}

// checkOnes holds DskRun of lines that all happen against FloNew, FloStep, FloDrain and DskBoard, one behind the other.
func checkOnes(t *testing.T, c *tally, j impl.JobJob, logs [][]impl.ItmItem, lines []string) {
	t.Helper()
	f := impl.FloNew(j, logs)
	for _, line := range lines {
		if line == "drain" {
			f = impl.FloDrain(f, impl.DrnMaxRounds)
			c.end(f)
			continue
		}
		e, ok := impl.DskEvent(line)
		if !ok {
			t.Fatalf("%q is none", line)
		}
		c.count(f, e)
		f = impl.FloStep(f, e)
	}
	got := checkLinesRun(t, impl.JobPrint(j), impl.DskItems(logs), lines)
	if want := impl.DskBoard(f); !slices.Equal(got, want) || len(got) == 0 {
		t.Fatalf("%+v, %v, %q: %q, not %q", j, logs, lines, got, want)
	}
}

func TestP79LinesThatAllHappen(t *testing.T) {
	r := fixed()
	c := &tally{}
	for _, j := range sizedJobs() {
		for _, way := range logWays(r, 38) {
			j.Tell, j.Room, j.Piece, j.Late = 1+r.Intn(4), 1+r.Intn(4), r.Intn(2) == 0, r.Intn(21)
			logs := way.logs(j)
			for _, n := range []int{4, 70} {
				checkOnes(t, c, j, logs, linesThatHappen(r, j, n, 0))
				checkOnes(t, c, j, logs, linesThatHappen(r, j, n, 5))
				checkOnes(t, c, j, logs, append(linesThatHappen(r, j, n, 0), "drain"))
			}
			checkOnes(t, c, j, logs, []string{"drain"})
			checkOnes(t, c, j, logs, []string{"drain", "drain", "crash", "drain"})
		}
	}
	if c.made == 0 || c.given == 0 || c.crashes == 0 || c.lates == 0 || c.gones == 0 || c.rows == 0 || c.ends == 0 {
		t.Fatalf("%+v", c)
	}
}

// Each line alone, and behind some others: one that fits, and one of a place that there is none of.
func TestP79EachLine(t *testing.T) {
	r := fixed()
	c := &tally{}
	for _, j := range sizedJobs() {
		logs := someLogs(j)
		ahead := linesThatHappen(r, j, 30, 0)
		for _, line := range append(eventLines(), "source 3", "task 2 0", "task 0 3", "commit 2", "drain") {
			checkOnes(t, c, j, logs, []string{line})
			if r.Intn(20) == 0 {
				checkOnes(t, c, j, logs, append(slices.Clone(ahead), line, "drain"))
			}
		}
	}
}

func TestP79AsManyLinesAsMayBe(t *testing.T) {
	r := fixed()
	c := &tally{}
	for _, j := range []impl.JobJob{plainSized(1, 1), withTasks(eachKind()[3], 3, 2), withTasks(eachKind()[2], 2, 2)} {
		logs := logsFor(r, j, 40)
		lines := linesThatHappen(r, j, 401, 1)
		for _, n := range []int{399, 400} {
			checkOnes(t, c, j, logs, lines[:n])
		}
		checkTells(t, "one more", impl.JobPrint(j), linesOf(logs), lines, "long")
		checkOnes(t, c, j, logs, slices.Repeat([]string{"drain"}, 400))
		checkOnes(t, c, j, logs, slices.Repeat([]string{"ask", "drop"}, 200))
		checkOnes(t, c, j, logs, slices.Repeat([]string{"ask", "crash", "drain", "source 0"}, 100))
	}
}

// sinkLines is what a board tells of a sink.
type sinkLines struct {
	n            int
	panes, pairs []string
}

// sinksOn is what a board tells, sink by sink; the lines ahead of it that tell of lines that are none are left out.
func sinksOn(t *testing.T, told []string) []sinkLines {
	t.Helper()
	var sinks []sinkLines
	for _, line := range told {
		at, n := 0, 0
		switch count, _ := fmt.Sscanf(line, "task %d up to %d", &at, &n); {
		case count == 2 && at == len(sinks):
			sinks = append(sinks, sinkLines{n: n})
		case strings.HasPrefix(line, "line ") && len(sinks) == 0:
		case strings.Contains(line, " pane ") && len(sinks) > 0:
			sinks[len(sinks)-1].panes = append(sinks[len(sinks)-1].panes, line)
		case strings.Contains(line, " too late for ") && len(sinks) > 0:
			sinks[len(sinks)-1].pairs = append(sinks[len(sinks)-1].pairs, line)
		default:
			t.Fatalf("%q of %q", line, told)
		}
	}
	return sinks
}

// checkEachCut holds what was written behind the first lines, cut at each place, against what was written behind all; and is how often a line has let a sink write.
func checkEachCut(t *testing.T, job, items, lines []string) int {
	t.Helper()
	all := sinksOn(t, checkLinesRun(t, job, items, lines))
	before := make([]sinkLines, len(all))
	writes := 0
	for n := range len(lines) + 1 {
		first := sinksOn(t, impl.DskRun(job, items, lines[:n]))
		if len(first) != len(all) {
			t.Fatalf("%q: %v behind %d lines, %v behind all", lines, first, n, all)
		}
		for at, s := range first {
			if !beginsWith(all[at].panes, s.panes) || !beginsWith(all[at].pairs, s.pairs) || s.n > all[at].n {
				t.Fatalf("%q, sink %d: %v behind %d lines, %v behind all", lines, at, s, n, all[at])
			}
			if !beginsWith(s.panes, before[at].panes) || !beginsWith(s.pairs, before[at].pairs) || s.n < before[at].n {
				t.Fatalf("%q, sink %d: %v behind %d lines, %v behind one fewer", lines, at, s, n, before[at])
			}
			if len(s.panes)+len(s.pairs) > len(before[at].panes)+len(before[at].pairs) {
				writes++
			}
		}
		before = first
	}
	return writes
}

// busyLines is so many lines by which each source sends two items after the other, and then a checkpoint is made and written; now and then another one stands in the place of one of these, or one that is none.
func busyLines(r *rand.Rand, j impl.JobJob, n int) []string {
	two := func(events []impl.EvEvent) []impl.EvEvent { return slices.Concat(events, events) }
	turn := slices.Concat(two(sourceEvents(j)), two(taskEvents(j)), []impl.EvEvent{toAsk}, sourceEvents(j), taskEvents(j), []impl.EvEvent{toSave}, sinkEvents(j))
	var lines []string
	for i := range n {
		line := lineOf(turn[i%len(turn)])
		switch r.Intn(50) {
		case 0:
			line = oneLine(r, j)
		case 1:
			line = pick(r, []string{"none", "", "crash", "drop", "ask 1 2 3", "source 9", "drain 0"})
		}
		lines = append(lines, line)
	}
	return lines
}

// busyLog is a log in which a mark is behind each record, and a record now and then too late.
func busyLog(r *rand.Rand) []impl.ItmItem {
	var log []impl.ItmItem
	for at := 2; at <= 50; at += 3 {
		log = append(log, rec(max(at-r.Intn(12), 0), r.Intn(4), r.Intn(10)), mark(at+3))
	}
	return append(log, mark(1000))
}

// Much is written on the way: what is behind the first lines is more than nothing and less than all.
func TestP80CutAtEachPlace(t *testing.T) {
	r := fixed()
	writes, jobs := 0, sizedJobs()
	for _, j := range jobs {
		j.Tell, j.Room, j.Piece, j.Late, j.Size = 1+r.Intn(4), 2+r.Intn(3), r.Intn(2) == 0, r.Intn(5), max(j.Step, 3)
		logs := logsBy(j, func() []impl.ItmItem { return busyLog(r) })
		writes += checkEachCut(t, impl.JobPrint(j), linesOf(logs), append(busyLines(r, j, 140), "drain"))
	}
	if writes < 6*len(jobs) {
		t.Errorf("%d times something was written", writes)
	}
}

func TestP80CutInRowsThatAreDrawn(t *testing.T) {
	r := fixed()
	writes := 0
	for _, j := range sizedJobs() {
		j.Room = 1 + r.Intn(4)
		lines := linesThatHappen(r, j, 40, 3)
		writes += checkEachCut(t, impl.JobPrint(j), linesOf(logsFor(r, j, 20)), append(lines, "crash", "drain"))
	}
	if writes < 20 {
		t.Fatalf("%d times something was written", writes)
	}
}

func TestP80TheDocumentsRunCutAtEachPlace(t *testing.T) {
	if writes := checkEachCut(t, plainLines(nil), someLines, exampleLines()); writes != 2 {
		t.Fatalf("%d times something was written", writes)
	}
}

func TestRunOfAJobThatIsWrong(t *testing.T) {
	logs := someLines
	for at := range 10 {
		for _, line := range []string{"", "none", words[at], words[at] + " x", words[at] + "  1", words[at] + " 01", words[at] + " 12345678", words[(at+1)%10] + " 1", "\xff"} {
			checkTells(t, line, plainLines(map[int]string{at + 1: line}), logs, nil, fmt.Sprintf("job %d", at+1))
		}
		checkTells(t, "too few lines", plainLines(nil)[:at], logs, nil, fmt.Sprintf("job %d", at+1))
		for other := at + 1; other < 10; other++ {
			checkTells(t, "two lines", plainLines(map[int]string{at + 1: "none", other + 1: "none"}), logs, nil, fmt.Sprintf("job %d", at+1))
		}
	}
	checkTells(t, "one line more", append(plainLines(nil), "room 3"), logs, nil, "job 11")
	checkTells(t, "many more", slices.Repeat(plainLines(nil), 50), logs, nil, "job 11")
	for at, line := range map[int]string{1: "sources 4", 2: "tasks 3", 3: "windows 4", 4: "size 0", 5: "step 1", 6: "late 21", 7: "tell 5", 9: "least 10", 10: "room 0"} {
		checkTells(t, line, plainLines(map[int]string{at: line}), logs, nil, "job 11")
	}
	checkTells(t, "piece", plainLines(map[int]string{8: "piece 2"}), logs, nil, "job 8")
}

func TestRunOfLogsThatAreWrong(t *testing.T) {
	job := plainLines(nil)
	for at := range someLines {
		lines := slices.Clone(someLines)
		for _, line := range []string{"none", "wall 1", "", "mark 61", "rec 1 0 4 1 2 3"} {
			lines[at] = line
			checkTells(t, line, job, lines, nil, fmt.Sprintf("logs %d", at+1))
		}
	}
	for name, items := range map[string][]string{
		"without an end": {"mark 1000", "-", "rec 1 1 1"}, "a dash first": {"-", "mark 1000"}, "a dash last": {"mark 1000", "-"}, "two dashes": {"mark 1000", "-", "-", "mark 1000"}, "a dash": {"-"}, "no line": nil,
	} {
		checkTells(t, name, job, items, nil, fmt.Sprintf("logs %d", len(items)+1))
	}
	checkTells(t, "too many lines", job, slices.Repeat([]string{"mark 1000", "-"}, 201)[:401], nil, "logs 401")
	checkTells(t, "too many lines, none of them one", job, make([]string, 401), nil, "logs 401")
}

func TestRunOfTooFewAndTooManyLogs(t *testing.T) {
	for sources := 1; sources <= 3; sources++ {
		job := plainLines(map[int]string{1: fmt.Sprintf("sources %d", sources)})
		for n := 1; n <= 6; n++ {
			if n != sources {
				checkTells(t, "logs", job, linesOf(shortLogs(n)), []string{"drain", "none"}, "logs 0")
			} else {
				checkTells(t, "logs", job, linesOf(shortLogs(n)), []string{"drain", "none"}, "line 2", fmt.Sprintf("task 0 up to %d", impl.FloDrain(impl.FloNew(withTasks(plainJob(impl.WinSess, 5, 0), sources, 1), shortLogs(n)), 400).Sinks[0].N))
			}
		}
		checkTells(t, "as many as may be", job, linesOf(shortLogs(200)), nil, "logs 0")
		checkTells(t, "too many, of which one is none", job, append(linesOf(shortLogs(5)), "-"), nil, "logs 11")
		checkTells(t, "no logs", job, nil, nil, "logs 1")
	}
}

func TestRunOfLinesThatAreNone(t *testing.T) {
	job, items := plainLines(nil), someLines
	board := []string{"task 0 up to 3", "key 0 window 1..6 pane 0 timely 4", "key 0 window 1..6 pane 1 gone", "key 0 window 1..14 pane 0 timely 9"}
	for _, none := range []string{"", " ", "none", "source", "source 0 0", "source -1", "source 12345678", "task 0", "task 0 0 0", "ask 0", "ask 1 2 3", "save ", " drop", "commit", "crash\n", "drain ", " drain", "drain 0", "drain 1 2 3", "Drain", "drains", "mark 5", "-", "line 1", "\xff", strings.Repeat("x", 100), strings.Repeat("0", 101)} {
		for at := range len(exampleLines()) + 1 {
			lines := slices.Insert(exampleLines(), at, none)
			checkTells(t, none, job, items, lines, append([]string{fmt.Sprintf("line %d", at+1)}, board...)...)
		}
		lines := slices.Concat([]string{none}, exampleLines()[:7], []string{none, none}, exampleLines()[7:], []string{none})
		checkTells(t, none, job, items, lines, append([]string{"line 1", "line 9", "line 10", "line 25"}, board...)...)
	}
}

// What is told of lines stands ahead of the board, each in order.
func TestRunOfLinesOfWhichAllAreNone(t *testing.T) {
	job, items := plainLines(nil), someLines
	for _, n := range []int{1, 2, 10, 399, 400} {
		var want []string
		for i := range n {
			want = append(want, fmt.Sprintf("line %d", i+1))
		}
		checkTells(t, "none", job, items, make([]string, n), append(want, "task 0 up to 0")...)
	}
	for _, n := range []int{401, 402, 10000} {
		checkTells(t, "none", job, items, make([]string, n), "long")
		checkTells(t, "ones", job, items, slices.Repeat([]string{"drain"}, n), "long")
		checkTells(t, "events", job, items, slices.Repeat([]string{"ask"}, n), "long")
	}
}

func TestRunOfMoreThanOneThingThatIsWrong(t *testing.T) {
	job, items, none := plainLines(nil), someLines, []string{"none"}
	long := slices.Repeat(none, 401)
	badJob, badItems, fewLogs := plainLines(map[int]string{4: "size x"}), []string{"mark 1000", "-", "wall 1"}, []string{"mark 1000"}
	for _, c := range []struct {
		job, items, lines []string
		want              []string
	}{
		{badJob, badItems, long, []string{"job 4"}},
		{badJob, badItems, none, []string{"job 4"}},
		{badJob, items, long, []string{"job 4"}},
		{badJob, fewLogs, nil, []string{"job 4"}},
		{nil, nil, nil, []string{"job 1"}},
		{nil, nil, long, []string{"job 1"}},
		{job, badItems, long, []string{"logs 3"}},
		{job, badItems, none, []string{"logs 3"}},
		{job, fewLogs, long, []string{"logs 0"}},
		{job, fewLogs, none, []string{"logs 0"}},
		{job, nil, long, []string{"logs 1"}},
		{job, append(slices.Clone(badItems), make([]string, 400)...), long, []string{"logs 401"}},
		{job, items, long, []string{"long"}},
		{job, items, none, []string{"line 1", "task 0 up to 0"}},
	} {
		checkTells(t, "more", c.job, c.items, c.lines, c.want...)
	}
}

// A line that is none turns nothing: what is behind it happens as without it.
func TestRunIsAsWithoutLinesThatAreNone(t *testing.T) {
	r := fixed()
	for range 150 {
		j := anyJob(r)
		job, items := impl.JobPrint(j), linesOf(logsFor(r, j, 20))
		ones := append(linesThatHappen(r, j, 60, 3), "drain")
		want := checkLinesRun(t, job, items, ones)
		lines, nones := slices.Clone(ones), 0
		for range 1 + r.Intn(6) {
			if line := anyLine(r); line != "drain" && !checkedAsOne(line) {
				lines = slices.Insert(lines, r.Intn(len(lines)+1), line)
				nones++
			}
		}
		if got := checkLinesRun(t, job, items, lines); len(got) != nones+len(want) || !slices.Equal(got[nones:], want) {
			t.Fatalf("%q: %q, not %q", lines, got, want)
		}
	}
}
