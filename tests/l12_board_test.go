package tests

import (
	"fmt"
	"slices"
	"strings"
	"testing"

	"loop.example/freshet/impl"
)

// paneLine is the line of a pane, from the document's words.
func paneLine(p impl.PanPane, tell int) string {
	line := fmt.Sprintf("key %d window %d..%d pane %d ", p.Key, p.Win.Start, p.Win.End, p.No)
	known := map[int]int{1: p.Agg.N, 2: p.Agg.Sum, 3: p.Agg.Least, 4: p.Agg.Most}[tell]
	switch p.Kind {
	case impl.PanTimely:
		return line + fmt.Sprintf("timely %d", known)
	case impl.PanLate:
		return line + fmt.Sprintf("late %d", known)
	}
	return line + "gone"
}

// pairLine is the line of a pair, from the document's words.
func pairLine(l impl.LatPair) string {
	return fmt.Sprintf("rec %d %d %d too late for %d..%d", l.Rec.T, l.Rec.Key, l.Rec.V, l.Win.Start, l.Win.End)
}

// boardOf says the same as DskBoard, from the document's words.
func boardOf(f impl.FloFlow) []string {
	if !isFlow(f) {
		return nil
	}
	var lines []string
	for at, s := range f.Sinks {
		lines = append(lines, fmt.Sprintf("task %d up to %d", at, s.N))
		for _, p := range s.Panes {
			lines = append(lines, paneLine(p, f.Job.Tell))
		}
		for _, l := range s.Lates {
			lines = append(lines, pairLine(l))
		}
	}
	return lines
}

// checkBoard holds DskBoard against the document's words, and how many lines it has of each against how many tasks, panes and pairs there are.
func checkBoard(t *testing.T, f impl.FloFlow) []string {
	t.Helper()
	board := impl.DskBoard(f)
	if want := boardOf(f); !slices.Equal(board, want) {
		t.Fatalf("%+v: %q, not %q", f, board, want)
	}
	tasks, panes, pairs := 0, 0, 0
	for _, line := range board {
		switch {
		case strings.HasPrefix(line, "task "):
			tasks++
		case strings.HasPrefix(line, "key "):
			panes++
		case strings.HasPrefix(line, "rec "):
			pairs++
		default:
			t.Fatalf("%+v: %q", f, line)
		}
	}
	if impl.FloOk(f) && (tasks != f.Job.Tasks || panes != len(impl.FloPanes(f)) || pairs != len(impl.FloLates(f))) {
		t.Fatalf("%+v: %d tasks, %d panes, %d pairs: %q", f, tasks, panes, pairs, board)
	}
	return board
}

func TestP78AtTheBeginning(t *testing.T) {
	for _, j := range sizedJobs() {
		want := []string{"task 0 up to 0", "task 1 up to 0"}[:j.Tasks]
		if board := checkBoard(t, impl.FloNew(j, someLogs(j))); !slices.Equal(board, want) {
			t.Errorf("%+v: %q", j, board)
		}
	}
}

// toldAll is panes of each kind and pairs, of each of two tasks.
func toldAll() (panes [2][]impl.PanPane, lates [2][]impl.LatPair) {
	panes[0] = []impl.PanPane{timely(0, 5, 10, agg(2, 3, -4, 7)), late(0, 5, 10, 1, agg(3, 0, -4, 7)), gone(0, 5, 10, 2), timely(2, 0, 120, one(-9)), late(2, 60, 61, 1500, agg(1000, -9000, -9, -9))}
	panes[1] = []impl.PanPane{timely(3, 60, 120, agg(1000, 9000, 9, 9)), gone(1, 0, 1, 1500)}
	lates[0] = []impl.LatPair{lat(rec(7, 0, 4), 5, 10), lat(rec(7, 2, -9), 0, 8)}
	lates[1] = []impl.LatPair{lat(rec(60, 3, 0), 60, 61), lat(rec(0, 1, 9), 0, 120), lat(rec(60, 3, 0), 60, 61)}
	return panes, lates
}

func TestP78WhatIsToldOfEach(t *testing.T) {
	panes, lates := toldAll()
	f := flowBy(plainFlow(plainSized(2, 2)), func(f *impl.FloFlow) {
		for at := range f.Sinks {
			f.Sinks[at] = impl.FloSink{N: 900 - at, Panes: panes[at], Lates: lates[at]}
		}
	})
	for tell, known := range map[int][]string{
		impl.AggCount: {"2", "3", "1", "1000", "1000"},
		impl.AggSum:   {"3", "0", "-9", "-9000", "9000"},
		impl.AggLeast: {"-4", "-4", "-9", "-9", "9"},
		impl.AggMost:  {"7", "7", "-9", "-9", "9"},
	} {
		f.Job.Tell = tell
		want := []string{
			"task 0 up to 900", "key 0 window 5..10 pane 0 timely " + known[0], "key 0 window 5..10 pane 1 late " + known[1], "key 0 window 5..10 pane 2 gone",
			"key 2 window 0..120 pane 0 timely " + known[2], "key 2 window 60..61 pane 1500 late " + known[3],
			"rec 7 0 4 too late for 5..10", "rec 7 2 -9 too late for 0..8",
			"task 1 up to 899", "key 3 window 60..120 pane 0 timely " + known[4], "key 1 window 0..1 pane 1500 gone",
			"rec 60 3 0 too late for 60..61", "rec 0 1 9 too late for 0..120", "rec 60 3 0 too late for 60..61",
		}
		if board := checkBoard(t, f); !slices.Equal(board, want) {
			t.Errorf("%d: %q, not %q", tell, board, want)
		}
	}
}

// Panes and pairs in none, one and both of two tasks, with each Tell; what is ready, or told since, is on no board.
func TestP78WhoHasWritten(t *testing.T) {
	panes, lates := toldAll()
	for who := range 16 {
		for tell := 1; tell <= 4; tell++ {
			for _, n := range []int{0, 1, 10, 900} {
				f := flowBy(plainFlow(plainSized(2, 2)), func(f *impl.FloFlow) {
					f.Job.Tell = tell
					for at := range f.Sinks {
						s := &f.Sinks[at]
						*s = impl.FloSink{N: n}
						if n < 900 {
							s.Ready = []impl.TskTxn{txn(n+1, panes[at], lates[at])}
						}
						if who>>at&1 == 1 {
							s.Panes = panes[at]
						}
						if who>>(2+at)&1 == 1 {
							s.Lates = lates[at]
						}
					}
				})
				want := 2
				for at, s := range f.Sinks {
					f.Tasks[at].Pend = txn(0, panes[at], lates[at])
					want += len(s.Panes) + len(s.Lates)
				}
				if board := checkBoard(t, f); !impl.FloOk(f) || len(board) != want {
					t.Fatalf("%+v: %q", f, board)
				}
			}
		}
	}
}

func TestP78AsMuchAsMayBeWritten(t *testing.T) {
	f := flowBy(plainFlow(plainSized(2, 2)), func(f *impl.FloFlow) {
		for at := range f.Sinks {
			f.Sinks[at] = impl.FloSink{N: 900, Panes: paneTimes(1500), Lates: lateTimes(1500)}
		}
	})
	if board := checkBoard(t, f); len(board) != 2*3001 {
		t.Fatalf("%d lines", len(board))
	}
	for _, turn := range []func(*impl.FloFlow){
		func(f *impl.FloFlow) { f.Sinks[1].Panes = paneTimes(1501) },
		func(f *impl.FloFlow) { f.Sinks[0].Lates = lateTimes(1501) },
	} {
		if board := checkBoard(t, flowBy(f, turn)); len(board) != 0 {
			t.Fatalf("%d lines", len(board))
		}
	}
}

func TestP78OnTheWayAndAtTheEnd(t *testing.T) {
	r := fixed()
	c := &tally{}
	for _, j := range sizedJobs() {
		for _, way := range logWays(r, 30) {
			j.Tell, j.Room, j.Piece = 1+r.Intn(4), 1+r.Intn(4), r.Intn(2) == 0
			f := impl.FloNew(j, way.logs(j))
			for range 120 {
				f = impl.FloStep(f, anyEvent(r, j))
				if r.Intn(4) == 0 {
					checkBoard(t, f)
				}
			}
			end := impl.FloDrain(f, 400)
			checkBoard(t, end)
			c.end(end)
		}
	}
	if c.lates == 0 || c.gones == 0 || c.rows == 0 {
		t.Fatalf("%+v", c)
	}
}

func TestP78FlowsThatNoEventsLeadTo(t *testing.T) {
	r := fixed()
	for range 3000 {
		checkBoard(t, anyFlow(r, anyJob(r)))
	}
}

func TestP78AFlowThatIsNotOk(t *testing.T) {
	for name, f := range flowsThatAreNotOk(plainSized(2, 2)) {
		if board := checkBoard(t, f); len(board) != 0 {
			t.Errorf("%s: %q", name, board)
		}
	}
	r := fixed()
	none := 0
	for range 3000 {
		f := brokenFlow(r, pick(r, []impl.FloFlow{anyFlow(r, anyJob(r)), ended(pick(r, sizedJobs()))}))
		if board := checkBoard(t, f); len(board) == 0 {
			none++
		}
	}
	if none < 1000 {
		t.Fatalf("%d flows were not ok", none)
	}
}
