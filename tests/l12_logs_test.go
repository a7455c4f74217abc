package tests

import (
	"math/rand"
	"slices"
	"strings"
	"sync"
	"testing"

	"loop.example/freshet/impl"
)

// allTexts is itemTexts, made once.
var allTexts = sync.OnceValue(itemTexts)

// allItems is textsByItem of these, made once.
var allItems = sync.OnceValue(func() map[impl.ItmItem]string { return textsByItem(allTexts()) })

// logsIn says the same as DskLogs, from the document's words.
func logsIn(lines []string) ([][]impl.ItmItem, int) {
	if len(lines) > 400 {
		return nil, 401
	}
	parts := make([][]impl.ItmItem, 1+len(slices.DeleteFunc(slices.Clone(lines), func(s string) bool { return s != "-" })))
	at := 0
	for i, line := range lines {
		x, is := allTexts()[line]
		switch {
		case line == "-":
			at++
		case !is || x.Kind == impl.ItmWall:
			return nil, i + 1
		default:
			parts[at] = append(parts[at], x)
		}
	}
	for _, log := range parts {
		if !isLog(allItems(), log) {
			return nil, len(lines) + 1
		}
	}
	return parts, 0
}

// linesOf says the same as DskItems, from the document's words.
func linesOf(logs [][]impl.ItmItem) []string {
	var lines []string
	for i, log := range logs {
		if !isLog(allItems(), log) {
			return nil
		}
		if i > 0 {
			lines = append(lines, "-")
		}
		for _, x := range log {
			lines = append(lines, allItems()[x])
		}
	}
	if len(lines) > 400 {
		return nil
	}
	return lines
}

// checkLogLines holds DskLogs against the document's words, and what it reads against the lines.
func checkLogLines(t *testing.T, lines []string) ([][]impl.ItmItem, int) {
	t.Helper()
	logs, wrong := impl.DskLogs(lines)
	if want, at := logsIn(lines); !sameLogs(logs, want) || wrong != at {
		t.Fatalf("%q: %v and %d, not %v and %d", lines, logs, wrong, want, at)
	}
	if wrong != 0 && len(logs) != 0 || wrong == 0 && !slices.Equal(impl.DskItems(logs), lines) {
		t.Fatalf("%q: %v and %d, which are written %q", lines, logs, wrong, impl.DskItems(logs))
	}
	return logs, wrong
}

// checkWrong holds DskLogs against the line that is to be told.
func checkWrong(t *testing.T, name string, lines []string, want int) {
	t.Helper()
	if logs, wrong := checkLogLines(t, lines); wrong != want || len(logs) != 0 {
		t.Errorf("%s, %q: %v and %d, not %d", name, lines, logs, wrong, want)
	}
}

// checkLogs holds DskItems against the document's words, and what it writes against the logs.
func checkLogs(t *testing.T, logs [][]impl.ItmItem) []string {
	t.Helper()
	lines := impl.DskItems(logs)
	if want := linesOf(logs); !slices.Equal(lines, want) {
		t.Fatalf("%v: %q, not %q", logs, lines, want)
	}
	if got, wrong := impl.DskLogs(lines); len(lines) > 0 && (!sameLogs(got, logs) || wrong != 0) {
		t.Fatalf("%v: %q, which reads as %v and %d", logs, lines, got, wrong)
	}
	return lines
}

// The document's logs, and their lines.
var (
	someLines = []string{"rec 1 0 4", "mark 7", "rec 5 0 3", "mark 1000", "-", "rec 9 0 2", "mark 8", "mark 1000"}
	theirLogs = [][]impl.ItmItem{{rec(1, 0, 4), mark(7), rec(5, 0, 3), mark(1000)}, {rec(9, 0, 2), mark(8), mark(1000)}}
)

func TestP76OneTwoAndThreeLogs(t *testing.T) {
	for _, c := range []struct {
		lines []string
		logs  [][]impl.ItmItem
	}{
		{someLines, theirLogs},
		{someLines[:4], theirLogs[:1]},
		{[]string{"mark 1000"}, [][]impl.ItmItem{{mark(1000)}}},
		{[]string{"mark 1000", "-", "mark 1000"}, [][]impl.ItmItem{{mark(1000)}, {mark(1000)}}},
		{[]string{"mark 5", "mark 60", "mark 1000", "-", "mark 1000", "-", "rec 0 0 0", "rec 60 3 -9", "mark 1000"}, [][]impl.ItmItem{{mark(5), mark(60), mark(1000)}, {mark(1000)}, {rec(0, 0, 0), rec(60, 3, -9), mark(1000)}}},
	} {
		if logs, wrong := checkLogLines(t, c.lines); !sameLogs(logs, c.logs) || wrong != 0 {
			t.Errorf("%q: %v and %d", c.lines, logs, wrong)
		}
		if lines := checkLogs(t, c.logs); !slices.Equal(lines, c.lines) {
			t.Errorf("%v: %q", c.logs, lines)
		}
	}
}

func TestP76LogsOfAnyKind(t *testing.T) {
	r := fixed()
	for range 300 {
		for sources := 1; sources <= 3; sources++ {
			j := plainSized(sources, 1)
			for _, way := range logWays(r, 38) {
				logs := way.logs(j)
				if lines := checkLogs(t, logs); len(lines) == 0 {
					t.Fatalf("%s, %v: no lines", way.name, logs)
				}
				checkLogLines(t, linesOf(logs))
			}
		}
	}
}

// Each item that may stand in a log is read, and each that may not is told.
func TestP76EachItem(t *testing.T) {
	for s, x := range allTexts() {
		lines := []string{"mark 1000", "-", s, "mark 1000"}
		switch {
		case x.Kind == impl.ItmWall:
			checkWrong(t, "a wall", lines, 3)
		case x == mark(1000):
			checkWrong(t, "the end twice", lines, 5)
		default:
			if logs, wrong := checkLogLines(t, lines); wrong != 0 || !sameLogs(logs, [][]impl.ItmItem{{mark(1000)}, {x, mark(1000)}}) {
				t.Fatalf("%q: %v and %d", lines, logs, wrong)
			}
		}
	}
}

func TestP76NoLogAtAll(t *testing.T) {
	for _, none := range [][][]impl.ItmItem{nil, {}, make([][]impl.ItmItem, 0, 4)} {
		if lines := checkLogs(t, none); len(lines) != 0 {
			t.Errorf("%q", lines)
		}
	}
	// What is not there is no log: nothing is read, as nothing was written, and a line more is asked for.
	checkWrong(t, "no line", nil, 1)
	checkWrong(t, "no line", []string{}, 1)
	checkWrong(t, "no line", make([]string, 0, 4), 1)
}

func TestP76ALogThatIsNone(t *testing.T) {
	for why, log := range noLogs() {
		for sources := 1; sources <= 3; sources++ {
			for at := range sources {
				logs := someLogs(plainSized(sources, 1))
				logs[at] = log
				if lines := checkLogs(t, logs); len(lines) != 0 {
					t.Errorf("%s, at %d of %d: %q", why, at, sources, lines)
				}
			}
		}
	}
	r := fixed()
	for range 2000 {
		logs := someLogs(plainSized(3, 1))
		logs[r.Intn(3)] = anyItems(r, 5)
		checkLogs(t, logs)
	}
}

// longLogs is logs that are, with a line between two, so many lines: as long ones as may be, and a last one.
func longLogs(lines int) [][]impl.ItmItem {
	var logs [][]impl.ItmItem
	for ; lines > 0; lines -= 41 {
		logs = append(logs, append(times(min(lines, 40)-1, rec(5, 1, 2)), mark(1000)))
	}
	return logs
}

// shortLogs is so many logs, each of the end alone.
func shortLogs(n int) [][]impl.ItmItem {
	return slices.Repeat([][]impl.ItmItem{{mark(1000)}}, n)
}

func TestP76AsManyLinesAsMayBe(t *testing.T) {
	for _, n := range []int{1, 39, 40, 42, 81, 399, 400} {
		if lines := checkLogs(t, longLogs(n)); len(lines) != n {
			t.Errorf("%d lines: %d", n, len(lines))
		}
		if logs, wrong := checkLogLines(t, linesOf(longLogs(n))); wrong != 0 || !sameLogs(logs, longLogs(n)) {
			t.Errorf("%d lines: %v and %d", n, logs, wrong)
		}
	}
	for _, n := range []int{401, 402, 441, 800, 100000} {
		if lines := checkLogs(t, longLogs(n)); len(lines) != 0 {
			t.Errorf("%d lines: %d", n, len(lines))
		}
	}
	full := append(shortLogs(199), []impl.ItmItem{rec(1, 1, 1), mark(1000)})
	for n, logs := range map[int][][]impl.ItmItem{399: shortLogs(200), 400: full, 0: shortLogs(201)} {
		if lines := checkLogs(t, logs); len(lines) != n {
			t.Errorf("%d lines: %d", n, len(lines))
		}
	}
	if lines := checkLogs(t, append(full[1:], full[199])); len(lines) != 0 {
		t.Errorf("%d lines", len(lines))
	}
	// One that is no log lets all be none, also behind too many lines.
	if lines := checkLogs(t, append(shortLogs(500), times(1, wall(1)))); len(lines) != 0 {
		t.Errorf("%q", lines)
	}
}

func TestP76OneLineMoreThanMayBe(t *testing.T) {
	for _, n := range []int{401, 402, 1000, 5000} {
		rows := slices.Repeat([]string{"mark 1000", "-"}, n)
		checkWrong(t, "logs", rows[:n], 401)
		checkWrong(t, "records", slices.Repeat([]string{"rec 1 1 1"}, n), 401)
		checkWrong(t, "dashes", slices.Repeat([]string{"-"}, n), 401)
		checkWrong(t, "lines that are none", make([]string, n), 401)
		rows[0] = "wall 1"
		checkWrong(t, "a wall ahead", rows[:n], 401)
		rows[0], rows[n-1] = "mark 1000", "none"
		checkWrong(t, "a line that is none last", rows[:n], 401)
	}
	rows := slices.Repeat([]string{"mark 1000", "-"}, 200)
	checkWrong(t, "400 lines, the last one a dash", rows, 401)
	rows[399] = "none"
	checkWrong(t, "400 lines, the last one none", rows, 400)
	checkWrong(t, "399 lines that are logs, and one that is none", append(slices.Clone(rows[:399]), ""), 400)
	checkWrong(t, "400 records", slices.Repeat([]string{"rec 1 1 1"}, 400), 401)
}

func TestP76WhereDashesAre(t *testing.T) {
	end := "mark 1000"
	for name, lines := range map[string][]string{
		"one": {"-"}, "two": {"-", "-"}, "first": {"-", end}, "last": {end, "-"}, "first and last": {"-", end, "-"}, "twice in a row": {end, "-", "-", end},
		"twice at first": {"-", "-", end}, "twice at last": {end, "-", "-"}, "first of two logs": {"-", end, "-", end}, "last of two logs": {end, "-", end, "-"},
		"thrice in a row": {end, "-", "-", "-", end}, "in the midst of a log": {"rec 1 1 1", "-", "mark 5", end}, "in the place of the end": {"rec 1 1 1", "-", end},
	} {
		checkWrong(t, name, lines, len(lines)+1)
	}
	for _, dash := range []string{"--", "- ", " -", "-\n", "", "–", "—", "-0", "_", "\x2d\x00", "- -"} {
		checkWrong(t, "no dash", []string{end, dash, end}, 2)
	}
}

func TestP76WhichLineIsWrong(t *testing.T) {
	wrong := []string{
		"", " ", "none", "wall 1", "wall 900", "rec", "rec 1", "rec 1 0", "rec 1 0 4 ", " rec 1 0 4", "rec  1 0 4", "rec 1 0 4 0", "rec 1 0 4 1 2 3", "rec 61 0 4", "rec -1 0 4", "rec 1 4 4", "rec 1 0 10", "rec 1 0 -10", "rec 01 0 4", "rec +1 0 4", "rec 1 0 -0",
		"mark", "mark 0", "mark 61", "mark 999", "mark 1001", "mark 5 1 2 3", "mark 5 ", "mark -1", "mark 12345678", "Mark 5", "source 0", "task 0 0", "drain", "ask", "line 1", "mark 5\n", "\xff", "\x00", strings.Repeat("0", 100), strings.Repeat(" ", 101), "mark " + strings.Repeat("0", 200) + "5",
	}
	for _, line := range wrong {
		for at := range someLines {
			lines := slices.Clone(someLines)
			lines[at] = line
			checkWrong(t, "in the place of a line", lines, at+1)
		}
		for at := range len(someLines) + 1 {
			checkWrong(t, "one line more", slices.Insert(slices.Clone(someLines), at, line), at+1)
		}
		checkWrong(t, "alone", []string{line}, 1)
	}
}

func TestP76WhichLineIsToldOfMore(t *testing.T) {
	for first := range someLines {
		for second := first + 1; second < len(someLines); second++ {
			lines := slices.Clone(someLines)
			lines[first], lines[second] = "none", "wall 1"
			checkWrong(t, "two lines", lines, first+1)
			lines[first], lines[second] = "wall 1", ""
			checkWrong(t, "two lines", lines, first+1)
		}
	}
	// A line that is wrong is told ahead of a log that is none, wherever that stands.
	checkWrong(t, "no log ahead", []string{"-", "mark 1000", "none"}, 3)
	checkWrong(t, "no log behind", []string{"none", "mark 1000", "-"}, 1)
	checkWrong(t, "marks that go back, and a wall", []string{"mark 9", "mark 8", "mark 1000", "-", "wall 1"}, 5)
	checkWrong(t, "a log that is too long, and a line that is none", append(linesOf(longLogs(40)), "mark 1000", "none"), 42)
	checkWrong(t, "two logs that are none", []string{"mark 5", "-", "rec 1 1 1"}, 4)
}

func TestP76LogsWithoutTheirEnd(t *testing.T) {
	for at, line := range someLines {
		if line == "mark 1000" {
			without := slices.Delete(slices.Clone(someLines), at, at+1)
			checkWrong(t, "a log without its end", without, len(without)+1)
		}
	}
	for name, lines := range map[string][]string{
		"a record": {"rec 1 1 1"}, "a mark": {"mark 60"}, "a record behind the end": {"mark 1000", "rec 1 1 1"}, "the end twice": {"mark 1000", "mark 1000"}, "marks that go back": {"mark 9", "mark 8", "mark 1000"}, "marks that stay": {"mark 9", "mark 9", "mark 1000"},
		"the second one": {"mark 1000", "-", "rec 1 1 1"}, "the first one": {"rec 1 1 1", "-", "mark 1000"}, "the one between": {"mark 1000", "-", "mark 4", "-", "mark 1000"}, "41 items": append(slices.Repeat([]string{"rec 1 1 1"}, 40), "mark 1000"),
	} {
		checkWrong(t, name, lines, len(lines)+1)
	}
}

// anyLogLine is a line of a log, a dash, or nearly one of these.
func anyLogLine(r *rand.Rand) string {
	switch r.Intn(12) {
	case 0, 1, 2, 3:
		return impl.ItmText(rec(r.Intn(61), r.Intn(4), r.Intn(19)-9))
	case 4:
		return impl.ItmText(mark(1 + r.Intn(60)))
	case 5, 6, 7:
		return "mark 1000"
	case 8, 9:
		return "-"
	case 10:
		return impl.ItmText(anyItem(r))
	}
	return anyText(r)
}

func TestP76AnyLines(t *testing.T) {
	r := fixed()
	read := 0
	for range 60000 {
		if _, wrong := checkLogLines(t, several(r, 6, anyLogLine)); wrong == 0 {
			read++
		}
	}
	for range 3000 {
		lines := linesOf(logsFor(r, plainSized(1+r.Intn(3), 1), 10))
		switch at := r.Intn(len(lines)); r.Intn(4) {
		case 0:
			lines[at] = anyLogLine(r)
		case 1:
			lines = slices.Insert(lines, at, anyLogLine(r))
		case 2:
			lines = slices.Delete(lines, at, at+1)
		}
		if _, wrong := checkLogLines(t, lines); wrong == 0 {
			read++
		}
	}
	if read < 1000 {
		t.Fatalf("%d were read", read)
	}
}

// All lists of at most six lines, of a few.
func TestP76AllShortLists(t *testing.T) {
	for _, lines := range lists(6, "-", "mark 1000", "rec 2 1 3", "mark 4", "wall 4") {
		checkLogLines(t, lines)
	}
}
