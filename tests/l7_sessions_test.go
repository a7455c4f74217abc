package tests

import (
	"slices"
	"testing"

	"loop.example/freshet/impl"
)

// sessionCase is a record of key 1 that comes to sessions of Size 5, with Late 10.
type sessionCase struct {
	name  string
	s     impl.OpState
	x     impl.ItmItem
	after []impl.OpRow
	panes []impl.PanPane
	late  bool
}

// among is rows with those of other keys ahead and behind, at times between.
func among(mark int, rows []impl.OpRow) []impl.OpRow {
	other := func(key int) []impl.OpRow {
		var others []impl.OpRow
		for _, w := range wins(0, 4, 4, 9, 12, 17, 20, 40) {
			if mark < w.End {
				others = append(others, untold(key, w.Start, w.End, one(9)))
			} else if mark < w.End+10 {
				others = append(others, told(key, w.Start, w.End, 2, one(9)))
			}
		}
		return others
	}
	return slices.Concat(other(0), rows, other(2))
}

func checkSessions(t *testing.T, cases []sessionCase) {
	t.Helper()
	j := withLate(plainJob(impl.WinSess, 5, 0), 10, false)
	for _, c := range cases {
		for _, around := range []bool{false, true} {
			s, want := c.s, impl.OpState{Mark: c.s.Mark, Rows: c.after}
			if around {
				s.Rows, want.Rows = among(s.Mark, s.Rows), among(s.Mark, want.Rows)
			}
			after, panes, lates := checkTake(t, j, s, c.x)
			if !impl.OpOk(j, s) || !sameOperator(after, want) || !slices.Equal(panes, c.panes) {
				t.Errorf("%s: %+v %v, not %+v %v", c.name, after, panes, want, c.panes)
			}
			if c.late != slices.Equal(lates, []impl.LatPair{lat(c.x, c.x.T, c.x.T+5)}) || c.late != (len(lates) > 0) {
				t.Errorf("%s: %v", c.name, lates)
			}
		}
	}
}

func TestSessionsOneRecordInOneSession(t *testing.T) {
	a, b := agg(3, 6, 1, 3), agg(4, 13, 1, 7)
	checkSessions(t, []sessionCase{
		{"the first of all", operator(0), rec(5, 1, 7), []impl.OpRow{untold(1, 5, 10, one(7))}, nil, false},
		{"a new one", operator(0, untold(1, 20, 25, a)), rec(5, 1, 7), []impl.OpRow{untold(1, 5, 10, one(7)), untold(1, 20, 25, a)}, nil, false},
		{"a new one that is over", operator(10), rec(5, 1, 7), []impl.OpRow{told(1, 5, 10, 1, one(7))}, []impl.PanPane{timely(1, 5, 10, one(7))}, false},
		{"a new one that is over just not", operator(9), rec(5, 1, 7), []impl.OpRow{untold(1, 5, 10, one(7))}, nil, false},
		{"a new one as late as may be", operator(19), rec(5, 1, 7), []impl.OpRow{told(1, 5, 10, 1, one(7))}, []impl.PanPane{timely(1, 5, 10, one(7))}, false},
		{"too late", operator(20), rec(5, 1, 7), nil, nil, true},
		{"too late, with others that it does not touch", operator(20, told(1, 10, 15, 1, a), untold(1, 18, 23, a)), rec(5, 1, 7), []impl.OpRow{told(1, 10, 15, 1, a), untold(1, 18, 23, a)}, nil, true},
		{"in one, not told", operator(3, untold(1, 1, 14, a)), rec(5, 1, 7), []impl.OpRow{untold(1, 1, 14, b)}, nil, false},
		{"in one, told", operator(14, told(1, 1, 14, 3, a)), rec(5, 1, 7), []impl.OpRow{told(1, 1, 14, 4, b)}, []impl.PanPane{late(1, 1, 14, 3, b)}, false},
		{"in one, at its beginning", operator(14, told(1, 1, 14, 1, a)), rec(1, 1, 7), []impl.OpRow{told(1, 1, 14, 2, b)}, []impl.PanPane{late(1, 1, 14, 1, b)}, false},
		{"in one, at its end", operator(3, untold(1, 1, 14, a)), rec(9, 1, 7), []impl.OpRow{untold(1, 1, 14, b)}, nil, false},
		{"in one of just its window", operator(3, untold(1, 5, 10, a)), rec(5, 1, 7), []impl.OpRow{untold(1, 5, 10, b)}, nil, false},
		{"in one that is as late as may be", operator(23, told(1, 1, 14, 3, a)), rec(2, 1, 7), []impl.OpRow{told(1, 1, 14, 4, b)}, []impl.PanPane{late(1, 1, 14, 3, b)}, false},
		{"of which only a part is new", operator(3, impl.OpRow{Key: 1, Win: win(1, 14), All: a, Fresh: one(2)}), rec(5, 1, 7), []impl.OpRow{{Key: 1, Win: win(1, 14), All: b, Fresh: agg(2, 9, 2, 7)}}, nil, false},
	})
}

func TestSessionsOneThatGrows(t *testing.T) {
	a, b := agg(3, 6, 1, 3), agg(4, 13, 1, 7)
	checkSessions(t, []sessionCase{
		{"at its end, not told", operator(3, untold(1, 1, 6, a)), rec(3, 1, 7), []impl.OpRow{untold(1, 1, 8, b)}, nil, false},
		{"at its end, by one", operator(3, untold(1, 1, 6, a)), rec(2, 1, 7), []impl.OpRow{untold(1, 1, 7, b)}, nil, false},
		{"at its end, touching just so", operator(3, untold(1, 1, 6, a)), rec(5, 1, 7), []impl.OpRow{untold(1, 1, 10, b)}, nil, false},
		{"at its end, touching just not", operator(3, untold(1, 1, 6, a)), rec(6, 1, 7), []impl.OpRow{untold(1, 1, 6, a), untold(1, 6, 11, one(7))}, nil, false},
		{"at its beginning, not told", operator(3, untold(1, 5, 10, a)), rec(3, 1, 7), []impl.OpRow{untold(1, 3, 10, b)}, nil, false},
		{"at its beginning, touching just so", operator(3, untold(1, 5, 10, a)), rec(1, 1, 7), []impl.OpRow{untold(1, 1, 10, b)}, nil, false},
		{"at its beginning, touching just not", operator(3, untold(1, 5, 10, a)), rec(0, 1, 7), []impl.OpRow{untold(1, 0, 5, one(7)), untold(1, 5, 10, a)}, nil, false},
		{"at both ends", operator(3, untold(1, 5, 7, a)), rec(4, 1, 7), []impl.OpRow{untold(1, 4, 9, b)}, nil, false},
		{"at its end, told, and behind it not over", operator(7, told(1, 1, 6, 3, a)), rec(3, 1, 7), []impl.OpRow{untold(1, 1, 8, b)}, []impl.PanPane{gone(1, 1, 6, 3)}, false},
		{"at its end, told, and behind it just over", operator(8, told(1, 1, 6, 3, a)), rec(3, 1, 7), []impl.OpRow{told(1, 1, 8, 1, b)}, []impl.PanPane{gone(1, 1, 6, 3), timely(1, 1, 8, b)}, false},
		{"at its beginning, told", operator(10, told(1, 5, 10, 1, a)), rec(3, 1, 7), []impl.OpRow{told(1, 3, 10, 1, b)}, []impl.PanPane{gone(1, 5, 10, 1), timely(1, 3, 10, b)}, false},
		{"told as often as may be", operator(10, told(1, 5, 10, 1500, a)), rec(3, 1, 7), []impl.OpRow{told(1, 3, 10, 1, b)}, []impl.PanPane{gone(1, 5, 10, 1500), timely(1, 3, 10, b)}, false},
		{"a part is new: behind it all is", operator(3, impl.OpRow{Key: 1, Win: win(1, 6), All: a, Fresh: one(2)}), rec(3, 1, 7), []impl.OpRow{untold(1, 1, 8, b)}, nil, false},
		{"by a record that were too late by itself", operator(18, told(1, 5, 14, 2, a)), rec(3, 1, 7), []impl.OpRow{told(1, 3, 14, 1, b)}, []impl.PanPane{gone(1, 5, 14, 2), timely(1, 3, 14, b)}, false},
		{"by one that were too late by itself, the last that may be", operator(23, told(1, 5, 14, 2, a)), rec(2, 1, 7), []impl.OpRow{told(1, 2, 14, 1, b)}, []impl.PanPane{gone(1, 5, 14, 2), timely(1, 2, 14, b)}, false},
	})
}

func TestSessionsThatBecomeOne(t *testing.T) {
	a, b := agg(3, 6, 1, 3), agg(2, -5, -9, 4)
	all := agg(6, 8, -9, 7)
	checkSessions(t, []sessionCase{
		{"none told", operator(3, untold(1, 1, 6, a), untold(1, 9, 14, b)), rec(5, 1, 7), []impl.OpRow{untold(1, 1, 14, all)}, nil, false},
		{"one told", operator(6, told(1, 1, 6, 2, a), untold(1, 9, 14, b)), rec(5, 1, 7), []impl.OpRow{untold(1, 1, 14, all)}, []impl.PanPane{gone(1, 1, 6, 2)}, false},
		{"both told", operator(15, told(1, 1, 6, 2, a), told(1, 9, 14, 5, b)), rec(5, 1, 7), []impl.OpRow{told(1, 1, 14, 1, all)}, []impl.PanPane{gone(1, 1, 6, 2), gone(1, 9, 14, 5), timely(1, 1, 14, all)}, false},
		{"both told, the first less often", operator(14, told(1, 1, 6, 1, b), told(1, 9, 14, 1, a)), rec(5, 1, 7), []impl.OpRow{told(1, 1, 14, 1, all)}, []impl.PanPane{gone(1, 1, 6, 1), gone(1, 9, 14, 1), timely(1, 1, 14, all)}, false},
		{"touching the first just not", operator(3, untold(1, 0, 5, a), untold(1, 9, 14, b)), rec(5, 1, 7), []impl.OpRow{untold(1, 0, 5, a), untold(1, 5, 14, agg(3, 2, -9, 7))}, nil, false},
		{"touching the second just not", operator(3, untold(1, 1, 6, a), untold(1, 10, 15, b)), rec(5, 1, 7), []impl.OpRow{untold(1, 1, 10, agg(4, 13, 1, 7)), untold(1, 10, 15, b)}, nil, false},
		{"with a third ahead, and a fourth behind", operator(6, told(1, 0, 2, 1, one(1)), told(1, 2, 6, 2, a), untold(1, 9, 14, b), untold(1, 14, 19, one(2))), rec(5, 1, 7),
			[]impl.OpRow{told(1, 0, 2, 1, one(1)), untold(1, 2, 14, all), untold(1, 14, 19, one(2))}, []impl.PanPane{gone(1, 2, 6, 2)}, false},
		{"three, two of them told", operator(6, told(1, 1, 3, 4, one(1)), told(1, 3, 6, 3, a), untold(1, 6, 14, b)), rec(2, 1, 7), []impl.OpRow{untold(1, 1, 14, agg(7, 9, -9, 7))}, []impl.PanPane{gone(1, 1, 3, 4), gone(1, 3, 6, 3)}, false},
		{"three, all told", operator(9, told(1, 1, 3, 4, one(1)), told(1, 4, 5, 3, a), told(1, 6, 9, 1, b)), rec(2, 1, 7), []impl.OpRow{told(1, 1, 9, 1, agg(7, 9, -9, 7))}, []impl.PanPane{gone(1, 1, 3, 4), gone(1, 4, 5, 3), gone(1, 6, 9, 1), timely(1, 1, 9, agg(7, 9, -9, 7))}, false},
		{"two within its window", operator(3, untold(1, 5, 6, a), untold(1, 8, 10, b)), rec(5, 1, 7), []impl.OpRow{untold(1, 5, 10, all)}, nil, false},
		{"two within its window, told", operator(10, told(1, 5, 6, 9, a), told(1, 8, 10, 8, b)), rec(5, 1, 7), []impl.OpRow{told(1, 5, 10, 1, all)}, []impl.PanPane{gone(1, 5, 6, 9), gone(1, 8, 10, 8), timely(1, 5, 10, all)}, false},
		{"the record is too late by itself, and the first is nearly shut", operator(15, told(1, 1, 6, 2, a), told(1, 9, 15, 5, b)), rec(5, 1, 7), []impl.OpRow{told(1, 1, 15, 1, all)}, []impl.PanPane{gone(1, 1, 6, 2), gone(1, 9, 15, 5), timely(1, 1, 15, all)}, false},
	})
}

// With Piece a session that takes others' place tells all of what it knows: what they told is gone.
func TestSessionsInPieces(t *testing.T) {
	j := withLate(plainJob(impl.WinSess, 5, 0), 10, true)
	a, b := agg(3, 6, 1, 3), agg(2, -5, -9, 4)
	for _, c := range []struct {
		name  string
		s     impl.OpState
		x     impl.ItmItem
		panes []impl.PanPane
	}{
		{"in one", operator(14, told(1, 1, 14, 3, a)), rec(5, 1, 7), []impl.PanPane{late(1, 1, 14, 3, one(7))}},
		{"one that grows", operator(8, told(1, 1, 6, 3, a)), rec(3, 1, 7), []impl.PanPane{gone(1, 1, 6, 3), timely(1, 1, 8, agg(4, 13, 1, 7))}},
		{"two that become one", operator(14, told(1, 1, 6, 1, a), told(1, 9, 14, 2, b)), rec(5, 1, 7), []impl.PanPane{gone(1, 1, 6, 1), gone(1, 9, 14, 2), timely(1, 1, 14, agg(6, 8, -9, 7))}},
		{"a new one", operator(12), rec(5, 1, 7), []impl.PanPane{timely(1, 5, 10, one(7))}},
	} {
		if _, panes, _ := checkTake(t, j, c.s, c.x); !slices.Equal(panes, c.panes) {
			t.Errorf("%s: %v, not %v", c.name, panes, c.panes)
		}
	}
}

func TestSessionsTheDocumentsExample(t *testing.T) {
	j := impl.JobJob{Sources: 2, Tasks: 1, Kind: impl.WinSess, Size: 5, Late: 4, Tell: impl.AggSum, Least: -9, Room: 3}
	got := tellAll(t, j, []impl.ItmItem{rec(1, 0, 4), rec(9, 0, 2), mark(7), rec(5, 0, 3), mark(8), mark(1000)})
	want := []string{"key 0 window 1..6 pane 0 timely 4", "key 0 window 1..6 pane 1 gone", "key 0 window 1..14 pane 0 timely 9"}
	var lines []string
	for _, p := range got.panes {
		lines = append(lines, impl.PanText(p, j.Tell))
	}
	if !slices.Equal(lines, want) || len(got.lates) != 0 {
		t.Fatalf("%q %v", lines, got.lates)
	}
}
