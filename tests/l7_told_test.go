package tests

import (
	"math/rand"
	"slices"
	"testing"

	"loop.example/freshet/impl"
)

// story is what an operator has told of records and marks.
type story struct {
	s     impl.OpState
	recs  []impl.ItmItem
	panes []impl.PanPane
	lates []impl.LatPair
}

// with is a story with one record or mark more.
func (o story) with(t *testing.T, j impl.JobJob, x impl.ItmItem) story {
	t.Helper()
	var panes []impl.PanPane
	var lates []impl.LatPair
	was := o.s.Mark
	if x.Kind == impl.ItmMark {
		o.s, panes = impl.OpMark(j, o.s, x.T)
	} else {
		o.s, panes, lates = impl.OpTake(j, o.s, x)
		o.recs = append(slices.Clone(o.recs), x)
	}
	if !impl.OpOk(j, o.s) || o.s.Mark < was {
		t.Fatalf("%+v, %v: %+v is not ok", j, x, o.s)
	}
	o.panes, o.lates = slices.Concat(o.panes, panes), slices.Concat(o.lates, lates)
	return o
}

// tellAll is the story of records and marks, from a new operator on.
func tellAll(t *testing.T, j impl.JobJob, items []impl.ItmItem) story {
	t.Helper()
	o := story{}
	for _, x := range items {
		o = o.with(t, j, x)
	}
	return o
}

// unruly is records and marks in no order, the last one the end; at most 120 records, of so many keys.
func unruly(r *rand.Rand, most, keys int) []impl.ItmItem {
	var items []impl.ItmItem
	now := 0
	for range r.Intn(most + 1) {
		switch r.Intn(6) {
		case 0:
			now = min(now+r.Intn(8), 60)
			items = append(items, mark(max(now, 1)))
		case 1:
			items = append(items, mark(1+r.Intn(max(now, 1))))
		default:
			x := nearRec(r, now+5)
			x.Key %= keys
			items = append(items, x)
		}
	}
	return append(items, mark(1000))
}

// inTime is records and marks of which none is later than may be, the last one the end.
func inTime(r *rand.Rand, most, keys, late int) []impl.ItmItem {
	var items []impl.ItmItem
	now := 0
	for range r.Intn(most + 1) {
		if r.Intn(4) == 0 && now < 60 {
			now += 1 + r.Intn(min(7, 60-now))
			items = append(items, mark(now))
			continue
		}
		least := max(now-late, 0)
		at := min(least+r.Intn(25), 60)
		if r.Intn(3) == 0 {
			at = least
		}
		items = append(items, rec(at, r.Intn(keys), r.Intn(19)-9))
	}
	return append(items, mark(1000))
}

// knowsAll holds each row of a table against all records of its key in its window but those that were too late for it.
func knowsAll(t *testing.T, j impl.JobJob, o story, rows []impl.TabRow) {
	t.Helper()
	for _, x := range rows {
		var theirs []impl.ItmItem
		for _, y := range o.recs {
			if y.Key == x.Key && has(x.Win, y.T) {
				theirs = append(theirs, y)
			}
		}
		for _, l := range o.lates {
			if i := slices.Index(theirs, l.Rec); l.Win == x.Win && i >= 0 {
				theirs = slices.Delete(theirs, i, i+1)
			}
		}
		var values []int
		for _, y := range theirs {
			values = append(values, y.V)
		}
		if x.Agg != knownOf(values) {
			t.Fatalf("%+v: %v knows not of %v", j, x, theirs)
		}
	}
}

// checkStory holds what was told up to the end against the promise's words.
func checkStory(t *testing.T, j impl.JobJob, items []impl.ItmItem) story {
	t.Helper()
	o := tellAll(t, j, items)
	rows := impl.TabOf(o.panes, j.Piece)
	if len(o.s.Rows) != 0 || !impl.PanSound(o.panes) || !isSound(o.panes) {
		t.Fatalf("%+v of %v: %+v %v", j, items, o.s, o.panes)
	}
	if got, want := impl.TabCount(rows)+len(o.lates), len(impl.SpcPairs(j, o.recs)); got != want {
		t.Fatalf("%+v of %v: %d, not %d: %v %v", j, items, got, want, rows, o.lates)
	}
	punctual := impl.LogPunctual(items, j.Late)
	if j.Kind != impl.WinSess || punctual {
		knowsAll(t, j, o, rows)
	}
	if punctual && (len(o.lates) != 0 || !slices.Equal(rows, allOf(j, o.recs)) || !impl.TabSame(rows, impl.SpcTable(j, o.recs))) {
		t.Fatalf("%+v of %v: %v %v, not %v", j, items, rows, o.lates, impl.SpcTable(j, o.recs))
	}
	return o
}

func TestP7AllIsToldOrTooLate(t *testing.T) {
	r := fixed()
	lates, gones, laters := 0, 0, 0
	for range 1500 {
		j := anyJob(r)
		items := unruly(r, 60, 1+r.Intn(4))
		for _, k := range bothPieces(j) {
			o := checkStory(t, k, items)
			lates += len(o.lates)
			for _, p := range o.panes {
				switch p.Kind {
				case impl.PanGone:
					gones++
				case impl.PanLate:
					laters++
				}
			}
		}
	}
	if lates < 500 || gones < 500 || laters < 500 {
		t.Fatalf("%d pairs, %d gone, %d late", lates, gones, laters)
	}
}

func TestP7EachKindOfWindow(t *testing.T) {
	r := fixed()
	for _, j := range windowJobs() {
		for _, late := range []int{0, 1, 5, 20} {
			for _, k := range bothPieces(withLate(j, late, false)) {
				checkStory(t, k, unruly(r, 30, 2))
			}
		}
	}
}

func TestP7AsManyRecordsAsMayBe(t *testing.T) {
	r := fixed()
	for _, k := range append(eachKind(), plainJob(impl.WinFixed, 1, 0), plainJob(impl.WinSlide, 20, 5)) {
		for _, j := range bothPieces(k) {
			for _, last := range []int{60, 4, 0} {
				recs := someRecs(r, 120, last, 4)
				checkStory(t, j, append(slices.Clone(recs), mark(1000)))
				var items []impl.ItmItem
				for i, x := range recs {
					items = append(items, x, mark(1+i/2))
				}
				checkStory(t, j, append(items, mark(1000)))
			}
		}
	}
}

// Each short list of a few records and marks, by which windows are told, late, shut, and gone.
func TestP7EveryShortStory(t *testing.T) {
	few := []impl.ItmItem{rec(1, 1, 4), rec(3, 1, 3), rec(5, 1, -2), rec(3, 0, 9), mark(4), mark(6), mark(7)}
	for _, all := range lists(4, few...) {
		for _, k := range []impl.JobJob{plainJob(impl.WinSess, 3, 0), plainJob(impl.WinSess, 2, 0), plainJob(impl.WinFixed, 3, 0), plainJob(impl.WinSlide, 4, 2)} {
			for _, j := range bothPieces(withLate(k, 1, false)) {
				checkStory(t, j, append(slices.Clone(all), mark(1000)))
			}
		}
	}
}

func TestP7NothingAtAll(t *testing.T) {
	for _, j := range eachKind() {
		for _, items := range [][]impl.ItmItem{{mark(1000)}, {mark(5), mark(60), mark(1000)}, {mark(1000), mark(1000)}} {
			if o := checkStory(t, j, items); len(o.panes)+len(o.lates) != 0 {
				t.Errorf("%+v of %v: %v %v", j, items, o.panes, o.lates)
			}
		}
		if o := checkStory(t, j, []impl.ItmItem{mark(1000), rec(7, 1, 4), rec(60, 2, 3)}); len(o.panes) != 0 || len(o.lates) != len(impl.WinOf(j, 7))+len(impl.WinOf(j, 60)) {
			t.Errorf("%+v, behind the end: %v %v", j, o.panes, o.lates)
		}
	}
}

// The same record, just not too late and too late by just one.
func TestP7TooLateByJustOneAndJustNot(t *testing.T) {
	for _, c := range []struct {
		j       impl.JobJob
		to      int // the least mark behind which the record of time 7 is too late for one window
		windows int
	}{
		{plainJob(impl.WinFixed, 5, 0), 14, 1}, {plainJob(impl.WinSlide, 6, 2), 12, 3}, {plainJob(impl.WinSlide, 4, 1), 12, 4}, {plainJob(impl.WinSess, 5, 0), 16, 1},
		{withLate(plainJob(impl.WinFixed, 1, 0), 0, false), 8, 1}, {withLate(plainJob(impl.WinSess, 1, 0), 20, false), 28, 1}, {withLate(plainJob(impl.WinSess, 1, 0), 0, false), 8, 1},
	} {
		for _, j := range bothPieces(c.j) {
			for _, before := range [][]impl.ItmItem{nil, {rec(40, 1, 2)}, {rec(7, 2, 1)}} {
				o := checkStory(t, j, append(slices.Clone(before), mark(c.to-1), rec(7, 1, 4), mark(1000)))
				if len(o.lates) != 0 {
					t.Errorf("%+v, mark %d: %v", j, c.to-1, o.lates)
				}
				o = checkStory(t, j, append(slices.Clone(before), mark(c.to), rec(7, 1, 4), mark(1000)))
				if len(o.lates) != 1 || o.lates[0].Rec != rec(7, 1, 4) {
					t.Errorf("%+v, mark %d: %v", j, c.to, o.lates)
				}
				if rows := impl.TabOf(o.panes, j.Piece); impl.TabCount(rows) != c.windows-1+len(impl.SpcPairs(j, before)) {
					t.Errorf("%+v, mark %d: %v", j, c.to, rows)
				}
			}
		}
	}
}

func TestP8WhoIsPunctualIsCounted(t *testing.T) {
	r := fixed()
	laters := 0
	for range 1500 {
		j := anyJob(r)
		items := inTime(r, 60, 1+r.Intn(4), j.Late)
		if !impl.LogPunctual(items, j.Late) {
			t.Fatalf("%v is not punctual by %d", items, j.Late)
		}
		for _, k := range bothPieces(j) {
			for _, p := range checkStory(t, k, items).panes {
				if p.Kind != impl.PanTimely {
					laters++
				}
			}
		}
	}
	if laters < 500 {
		t.Fatalf("%d late or gone", laters)
	}
}

func TestP8EachKindOfWindow(t *testing.T) {
	r := fixed()
	for _, j := range windowJobs() {
		for _, late := range []int{0, 1, 5, 20} {
			for _, k := range bothPieces(withLate(j, late, false)) {
				checkStory(t, k, inTime(r, 40, 3, late))
			}
		}
	}
}

// A record that comes as late as may be, to windows that were told.
func TestP8JustPunctual(t *testing.T) {
	for _, k := range append(eachKind(), plainJob(impl.WinFixed, 1, 0), plainJob(impl.WinSess, 1, 0), plainJob(impl.WinSess, 9, 0)) {
		for late := 0; late <= 20; late++ {
			for _, j := range bothPieces(withLate(k, late, false)) {
				for to := late + 1; to <= 60; to += 7 {
					at := to - late
					items := []impl.ItmItem{rec(at, 1, 4), rec(min(at+8, 60), 1, 2), mark(to), rec(at, 1, -3), rec(min(at+4, 60), 1, 1), rec(at, 2, 5), mark(1000)}
					if o := checkStory(t, j, items); len(o.lates) != 0 {
						t.Fatalf("%+v of %v: %v", j, items, o.lates)
					}
				}
			}
		}
	}
}

// withoutKnown is panes without what is known.
func withoutKnown(panes []impl.PanPane) []impl.PanPane {
	bare := slices.Clone(panes)
	for i := range bare {
		bare[i].Agg = impl.AggAgg{}
	}
	return bare
}

// checkPieces holds what two jobs tell that differ in Piece alone against each other, at each time.
func checkPieces(t *testing.T, j impl.JobJob, items []impl.ItmItem) {
	t.Helper()
	k := withLate(j, j.Late, true)
	j.Piece = false
	var a, b story
	for i, x := range items {
		a, b = a.with(t, j, x), b.with(t, k, x)
		if !sameOperator(a.s, b.s) || !slices.Equal(a.lates, b.lates) || !slices.Equal(withoutKnown(a.panes), withoutKnown(b.panes)) {
			t.Fatalf("%+v of %v: %+v %v %v and %+v %v %v", j, items[:i+1], a.s, a.panes, a.lates, b.s, b.panes, b.lates)
		}
		if all, pieces := impl.TabOf(a.panes, false), impl.TabOf(b.panes, true); !impl.TabSame(all, pieces) {
			t.Fatalf("%+v of %v: %v and %v", j, items[:i+1], all, pieces)
		}
	}
}

func TestP43PieceAlone(t *testing.T) {
	r := fixed()
	for range 1000 {
		j := anyJob(r)
		checkPieces(t, j, unruly(r, 50, 1+r.Intn(4)))
		checkPieces(t, j, inTime(r, 30, 1+r.Intn(2), j.Late))
	}
	for _, j := range eachKind() {
		checkPieces(t, j, []impl.ItmItem{rec(1, 0, 4), rec(9, 0, 2), mark(7), rec(5, 0, 3), rec(5, 0, 1), mark(8), rec(8, 0, -9), mark(14), rec(11, 0, 6), rec(3, 0, 1), mark(1000)})
	}
}

func TestP43WhatIsNewAndWhatIsAll(t *testing.T) {
	items := []impl.ItmItem{rec(5, 1, 4), rec(6, 1, 2), mark(10), rec(7, 1, -3), rec(5, 1, 9), mark(1000)}
	for piece, want := range map[bool][]impl.PanPane{
		false: {timely(1, 5, 10, agg(2, 6, 2, 4)), late(1, 5, 10, 1, agg(3, 3, -3, 4)), late(1, 5, 10, 2, agg(4, 12, -3, 9))},
		true:  {timely(1, 5, 10, agg(2, 6, 2, 4)), late(1, 5, 10, 1, one(-3)), late(1, 5, 10, 2, one(9))},
	} {
		if o := tellAll(t, withLate(plainJob(impl.WinFixed, 5, 0), 4, piece), items); !slices.Equal(o.panes, want) {
			t.Errorf("Piece %v: %v, not %v", piece, o.panes, want)
		}
	}
}
