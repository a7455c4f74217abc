package tests

import (
	"math"
	"math/rand"
	"slices"
	"testing"

	"loop.example/freshet/impl"
)

// stepTo is a task behind a step that has something to take, and what is ready by it.
func stepTo(t *testing.T, j impl.JobJob, k impl.TskTask, at int) (impl.TskTask, []impl.TskTxn) {
	t.Helper()
	after, ready, took := checkStep(t, j, k, at)
	if !took || !impl.TskOk(j, after) {
		t.Fatalf("%+v, %+v, step of %d: %+v %v", j, k, at, after, took)
	}
	return after, ready
}

// give lets an item come by a channel that has none ahead of it.
func give(t *testing.T, j impl.JobJob, k impl.TskTask, at int, x impl.ItmItem) (impl.TskTask, []impl.TskTxn) {
	t.Helper()
	put, ok := checkPutIn(t, j, k, at, x)
	if !ok {
		t.Fatalf("%+v, %+v: no room for %v in %d", j, k, x, at)
	}
	return stepTo(t, j, put, at)
}

// checkIdle holds a step that has nothing to take, or no room for what it may lead to, against the chapter's words.
func checkIdle(t *testing.T, j impl.JobJob, k impl.TskTask, at int) {
	t.Helper()
	if after, ready, took := checkStep(t, j, k, at); took || len(ready) != 0 || !sameTask(after, k) || !impl.TskOk(j, k) {
		t.Errorf("%+v, %+v, step of %d: %+v %v %v", j, k, at, after, ready, took)
	}
}

func TestP33ChannelsWithNothingToTake(t *testing.T) {
	for _, kind := range eachKind() {
		for _, x := range []impl.ItmItem{rec(7, 1, 4), mark(9), wall(2), wall(3), wall(4)} {
			j := withSources(kind, 3, 3)
			k := task(3, in(5), held(4, x, wall(3)), in(6, x, mark(8)))
			k.Pend = txn(0, paneTimes(2), lateTimes(1))
			checkIdle(t, j, k, 0)
			checkIdle(t, j, k, 1)
			if after, _ := stepTo(t, j, k, 2); !slices.Equal(after.Ins[2].Queue, []impl.ItmItem{mark(8)}) {
				t.Errorf("%v: %+v", x, after)
			}
			for _, at := range append([]int{-3, -2, 6}, edges...) {
				if at < 0 || at > 2 {
					checkIdle(t, j, k, at)
				}
			}
			one := withSources(kind, 1, 3)
			checkIdle(t, one, task(3, in(5)), 0)
			checkIdle(t, one, task(3, in(5, x)), 1)
			checkIdle(t, one, task(3, in(5, x)), -1)
			if after, _ := stepTo(t, one, task(3, in(5, x)), 0); len(after.Ins[0].Queue) != 0 {
				t.Errorf("%v: %+v", x, after)
			}
		}
	}
}

func TestP33RowsThatThereIsRoomFor(t *testing.T) {
	for _, kind := range []impl.JobJob{plainJob(impl.WinFixed, 10, 0), plainJob(impl.WinSlide, 10, 5), plainJob(impl.WinSlide, 4, 1)} {
		for _, x := range []impl.ItmItem{rec(7, 1, 4), rec(60, 3, 4), mark(4), mark(20), mark(1000), wall(1), wall(3)} {
			for n, fits := range map[int]bool{0: true, 1: true, 279: true, 280: true, 281: false, 282: false, 300: false} {
				j := withSources(kind, 2, 3)
				k := task(2, in(3, x), in(1000))
				k.Op.Rows = manyRows(n)
				if !fits {
					checkIdle(t, j, k, 0)
				} else if after, _ := stepTo(t, j, k, 0); len(after.Ins[0].Queue) != 0 {
					t.Errorf("%+v, %d rows, %v: %+v", j, n, x, after)
				}
			}
		}
	}
}

func TestP33ToldThatThereIsRoomFor(t *testing.T) {
	for _, kind := range eachKind() {
		for _, x := range []impl.ItmItem{rec(7, 1, 4), rec(0, 1, 4), mark(40), wall(1), wall(3)} {
			for _, c := range []struct {
				panes, lates int
				fits         bool
			}{
				{0, 0, true}, {1199, 0, true}, {1200, 0, true}, {1201, 0, false}, {1500, 0, false},
				{0, 1479, true}, {0, 1480, true}, {0, 1481, false}, {0, 1500, false},
				{1200, 1480, true}, {1201, 1480, false}, {1200, 1481, false}, {1480, 1200, false}, {1500, 1500, false},
			} {
				j := withSources(kind, 2, 3)
				k := task(2, in(12, x), in(30))
				k.Op.Rows = []impl.OpRow{told(1, 5, 10, 1, one(4)), untold(1, 10, 15, one(4)), untold(2, 12, 32, one(4))}
				k.Pend = txn(0, paneTimes(c.panes), lateTimes(c.lates))
				if !c.fits {
					checkIdle(t, j, k, 0)
				} else if after, _ := stepTo(t, j, k, 0); len(after.Ins[0].Queue) != 0 {
					t.Errorf("%d panes and %d pairs, %v: not taken", c.panes, c.lates, x)
				}
			}
		}
	}
}

// As much as one step may tell has room, even where all was told that may be ahead of it.
func TestP33TheMostThatAStepTells(t *testing.T) {
	j := withSources(plainJob(impl.WinSlide, 10, 5), 2, 1)
	k := task(2, in(3, mark(1000)), in(1000))
	k.Op.Rows = manyRows(280)
	k.Pend = txn(0, paneTimes(1200), lateTimes(1480))
	after, _ := stepTo(t, j, k, 0)
	if len(after.Pend.Panes) != 1480 || len(after.Op.Rows) != 0 {
		t.Errorf("%d panes, %d rows", len(after.Pend.Panes), len(after.Op.Rows))
	}
	checkIdle(t, j, after, 0)
	four := withSources(plainJob(impl.WinSlide, 4, 1), 1, 1)
	after, _ = stepTo(t, four, impl.TskTask{Ins: []impl.TskIn{in(1000, rec(30, 1, 4))}, Op: operator(1000), Pend: k.Pend}, 0)
	if len(after.Pend.Lates) != 1484 {
		t.Errorf("%d pairs", len(after.Pend.Lates))
	}
}

// No word bars a step behind the last value of a row, or its last pane: it counts on, and what it leads to is not ok.
func TestP33BehindTheLastValueAndTheLastPane(t *testing.T) {
	j := withSources(withLate(plainJob(impl.WinFixed, 5, 0), 4, false), 1, 1)
	for _, c := range []struct {
		row impl.OpRow
		ok  bool
	}{
		{told(1, 5, 10, 1499, agg(999, 0, -9, 9)), true}, {told(1, 5, 10, 1500, agg(999, 0, -9, 9)), false}, {told(1, 5, 10, 1499, agg(1000, 0, -9, 9)), false},
	} {
		k := task(0, in(12, rec(7, 1, 4)))
		k.Op.Rows = []impl.OpRow{c.row}
		if after, _, took := checkStep(t, j, k, 0); !took || impl.TskOk(j, after) != c.ok {
			t.Errorf("%+v: %+v %v", c.row, after, took)
		}
	}
}

func TestP33TheFirstOfItsChannelAlone(t *testing.T) {
	r := fixed()
	took := 0
	for range 15000 {
		j := anyJob(r)
		k := anyTask(r, j)
		at := r.Intn(j.Sources)
		after, _, ok := checkStep(t, j, k, at)
		if !impl.TskOk(j, after) {
			t.Fatalf("%+v, %+v, step of %d: %+v is not ok", j, k, at, after)
		}
		if ok == (k.Ins[at].Held || len(k.Ins[at].Queue) == 0) {
			t.Fatalf("%+v, %+v, step of %d: %v", j, k, at, ok)
		}
		for i, c := range k.Ins {
			want := c.Queue
			if i == at && ok {
				want = want[1:]
				took++
			}
			if !slices.Equal(after.Ins[i].Queue, want) {
				t.Fatalf("%+v, %+v, step of %d: %+v", j, k, at, after)
			}
		}
	}
	if took < 3000 {
		t.Fatalf("%d taken", took)
	}
}

// All that was put into a channel comes out of it, in order, whatever comes and goes between.
func TestP33OneBehindTheOther(t *testing.T) {
	r := fixed()
	for range 400 {
		j := anyJob(r)
		k := impl.TskNew(j, operator(0), make([]int, j.Sources))
		waiting := make([][]impl.ItmItem, j.Sources)
		for range 60 {
			at := r.Intn(j.Sources)
			if r.Intn(2) == 0 {
				x := nearItem(r, k.Op.Mark, k.Wall)
				after, put := checkPutIn(t, j, k, at, x)
				if put {
					waiting[at] = append(waiting[at], x)
				}
				k = after
			} else {
				after, _, took := checkStep(t, j, k, at)
				if took {
					waiting[at] = waiting[at][1:]
				}
				k = after
			}
			if !slices.EqualFunc(k.Ins, waiting, func(c impl.TskIn, want []impl.ItmItem) bool { return slices.Equal(c.Queue, want) }) || !impl.TskOk(j, k) {
				t.Fatalf("%+v: %+v, not %v", j, k, waiting)
			}
		}
	}
}

// heldAt is channels at marks from 9 on, of which some are held; the one at a place has a wall ahead of a mark.
func heldAt(sources, at, n int, some []bool) []impl.TskIn {
	var ins []impl.TskIn
	for i := range sources {
		c := in(9+i, mark(20))
		if i == at {
			c.Queue = []impl.ItmItem{wall(n), mark(20)}
		}
		c.Held = i != at && some[i]
		ins = append(ins, c)
	}
	return ins
}

// Each number of channels, each channel at which a wall comes, each choice of others that are held, each number around Wall.
func TestP34EachWallAndEachHeld(t *testing.T) {
	told := txn(0, paneTimes(2), lateTimes(3))
	for sources := 1; sources <= 3; sources++ {
		j := withSources(plainJob(impl.WinFixed, 5, 0), sources, 2)
		for at := range sources {
			for _, some := range [][]bool{{false, false, false}, {true, false, false}, {false, true, false}, {false, false, true}, {true, true, false}, {true, false, true}, {false, true, true}, {true, true, true}} {
				for _, was := range []int{0, 1, 5, 899, 900} {
					for _, n := range []int{1, was - 1, was, was + 1, was + 2, 900} {
						if n < 1 || n > 900 {
							continue
						}
						k := task(was, heldAt(sources, at, n, some)...)
						k.Pend = told
						checkWall(t, j, k, at, n)
					}
				}
			}
		}
	}
}

// checkWall holds a step of a wall against the promise's words.
func checkWall(t *testing.T, j impl.JobJob, k impl.TskTask, at, n int) {
	t.Helper()
	after, ready := stepTo(t, j, k, at)
	heldBefore := impl.TskHeld(k)
	if after.Wall != max(k.Wall, n) || !sameOperator(after.Op, k.Op) {
		t.Fatalf("%+v, wall %d by %d: %+v", k, n, at, after)
	}
	var wantHeld int
	var all bool
	switch {
	case n < k.Wall:
		wantHeld = heldBefore
	case n > k.Wall:
		wantHeld, all = 1, j.Sources == 1
	default:
		wantHeld, all = heldBefore+1, heldBefore+1 == j.Sources
	}
	if all {
		want := txn(n, k.Pend.Panes, k.Pend.Lates)
		if len(ready) != 1 || !sameTxn(ready[0], want) || !sameTxn(after.Pend, impl.TskTxn{}) || impl.TskHeld(after) != 0 {
			t.Fatalf("%+v, wall %d by %d: %+v %v", k, n, at, after, ready)
		}
		return
	}
	if len(ready) != 0 || !sameTxn(after.Pend, k.Pend) || impl.TskHeld(after) != wantHeld || after.Ins[at].Held != (n >= k.Wall) {
		t.Fatalf("%+v, wall %d by %d: %+v %v", k, n, at, after, ready)
	}
}

func TestP34ALaterWallSetsFree(t *testing.T) {
	j := withSources(plainJob(impl.WinFixed, 5, 0), 3, 3)
	k := impl.TskNew(j, operator(0), []int{0, 0, 0})
	k, _ = give(t, j, k, 0, wall(1))
	k, _ = give(t, j, k, 1, wall(1))
	if !k.Ins[0].Held || !k.Ins[1].Held || k.Ins[2].Held || k.Wall != 1 {
		t.Fatalf("%+v", k)
	}
	// The third source has never sent the first wall: the second one comes there first.
	k, ready := give(t, j, k, 2, wall(2))
	if k.Ins[0].Held || k.Ins[1].Held || !k.Ins[2].Held || k.Wall != 2 || len(ready) != 0 {
		t.Fatalf("%+v %v", k, ready)
	}
	k, _ = give(t, j, k, 0, wall(2))
	// What was sent of the first wall and comes now is nothing.
	k, ready = give(t, j, k, 1, wall(1))
	if !k.Ins[0].Held || k.Ins[1].Held || !k.Ins[2].Held || k.Wall != 2 || len(ready) != 0 {
		t.Fatalf("%+v %v", k, ready)
	}
	k, ready = give(t, j, k, 1, wall(2))
	if impl.TskHeld(k) != 0 || k.Wall != 2 || len(ready) != 1 || ready[0].N != 2 {
		t.Fatalf("%+v %v", k, ready)
	}
	// A wall of the same number once more holds its channel: only an earlier one is nothing.
	k, ready = give(t, j, k, 1, wall(2))
	if !k.Ins[1].Held || impl.TskHeld(k) != 1 || len(ready) != 0 {
		t.Fatalf("%+v %v", k, ready)
	}
	k, ready = give(t, j, k, 0, wall(1))
	if !k.Ins[1].Held || impl.TskHeld(k) != 1 || len(ready) != 0 {
		t.Fatalf("%+v %v", k, ready)
	}
	if k, _ = give(t, j, k, 2, wall(900)); k.Ins[1].Held || !k.Ins[2].Held || k.Wall != 900 {
		t.Fatalf("%+v", k)
	}
}

// What a channel has behind a wall waits until all have come to it, and is not in what is ready.
func TestP34WhatIsBehindAWallWaits(t *testing.T) {
	j := withLate(withSources(plainJob(impl.WinFixed, 5, 0), 2, 4), 0, false)
	k := task(0, in(0, rec(1, 0, 7), mark(6), wall(1), mark(11)), in(0, mark(9), rec(2, 1, 3), rec(7, 1, 4), wall(1)))
	for _, at := range []int{0, 0, 0} {
		k, _ = stepTo(t, j, k, at)
	}
	checkIdle(t, j, k, 0)
	var ready []impl.TskTxn
	for i, at := range []int{1, 1, 1} {
		if k, ready = stepTo(t, j, k, at); len(ready) != 0 {
			t.Fatalf("step %d: %v", i, ready)
		}
		checkIdle(t, j, k, 0)
	}
	k, ready = stepTo(t, j, k, 1)
	want := txn(1, []impl.PanPane{timely(0, 0, 5, one(7))}, []impl.LatPair{lat(rec(2, 1, 3), 0, 5)})
	if len(ready) != 1 || !sameTxn(ready[0], want) || !sameTxn(k.Pend, impl.TskTxn{}) || impl.TskHeld(k) != 0 {
		t.Fatalf("%+v %+v", k, ready)
	}
	k, _ = stepTo(t, j, k, 0)
	k, _ = give(t, j, k, 1, mark(10))
	if want := txn(0, []impl.PanPane{timely(1, 5, 10, one(4))}, nil); !sameTxn(k.Pend, want) {
		t.Fatalf("%+v", k)
	}
}

func TestP34OneSourceAlone(t *testing.T) {
	for _, kind := range eachKind() {
		j := withSources(withLate(kind, 4, false), 1, 1)
		k := impl.TskNew(j, operator(0), []int{0})
		var ready []impl.TskTxn
		for _, n := range []int{1, 2, 2, 7, 900, 900} {
			k, _ = give(t, j, k, 0, rec(7, 1, 4))
			k, ready = give(t, j, k, 0, wall(n))
			if len(ready) != 1 || !sameTxn(ready[0], txn(n, nil, nil)) || k.Wall != n || k.Ins[0].Held {
				t.Fatalf("%+v, wall %d: %+v %v", j, n, k, ready)
			}
		}
		for _, n := range []int{1, 899} {
			if k, ready = give(t, j, k, 0, wall(n)); len(ready) != 0 || k.Wall != 900 || k.Ins[0].Held {
				t.Fatalf("%+v, wall %d: %+v %v", j, n, k, ready)
			}
		}
		k, _ = give(t, j, k, 0, mark(1000))
		if k, ready = give(t, j, k, 0, wall(900)); len(ready) != 1 || len(ready[0].Panes) != len(impl.WinOf(j, 7)) || ready[0].N != 900 {
			t.Fatalf("%+v: %+v %v", j, k, ready)
		}
	}
}

func TestP34OfAnyTask(t *testing.T) {
	r := fixed()
	full := 0
	for range 8000 {
		j := anyJob(r)
		k := anyTask(r, j)
		at, n := r.Intn(j.Sources), min(max(k.Wall-1+r.Intn(3), 1), 900)
		k.Ins[at].Held = false
		k.Ins[at].Queue = append([]impl.ItmItem{wall(n)}, k.Ins[at].Queue...)[:min(j.Room, len(k.Ins[at].Queue)+1)]
		if j.Sources > 1 && r.Intn(3) == 0 {
			for i := range k.Ins {
				k.Ins[i].Held = i != at
			}
			full++
		}
		checkWall(t, j, k, at, n)
	}
	if full < 500 {
		t.Fatalf("%d with all others held", full)
	}
}

func TestP35ARecordBehindWhatWasTold(t *testing.T) {
	told1, late1 := []impl.PanPane{timely(3, 0, 5, one(-1)), gone(2, 1, 4, 6)}, []impl.LatPair{lat(rec(1, 3, 5), 0, 5)}
	for _, c := range []struct {
		name  string
		job   impl.JobJob
		rows  []impl.OpRow
		x     impl.ItmItem
		panes []impl.PanPane
		lates []impl.LatPair
	}{
		{"in time", plainJob(impl.WinFixed, 5, 0), nil, rec(11, 1, 7), nil, nil},
		{"late", plainJob(impl.WinFixed, 5, 0), nil, rec(9, 1, 7), []impl.PanPane{timely(1, 5, 10, one(7))}, nil},
		{"late, once more", plainJob(impl.WinFixed, 5, 0), []impl.OpRow{told(1, 5, 10, 3, one(2))}, rec(9, 1, 7), []impl.PanPane{late(1, 5, 10, 3, agg(2, 9, 2, 7))}, nil},
		{"too late", plainJob(impl.WinFixed, 5, 0), nil, rec(4, 1, 7), nil, []impl.LatPair{lat(rec(4, 1, 7), 0, 5)}},
		{"too late for one, late for one, in time for one", plainJob(impl.WinSlide, 6, 2), nil, rec(7, 1, 7), []impl.PanPane{timely(1, 4, 10, one(7)), timely(1, 6, 12, one(7))}, []impl.LatPair{lat(rec(7, 1, 7), 2, 8)}},
		{"two that are gone, and one in their place", plainJob(impl.WinSess, 5, 0), []impl.OpRow{told(1, 4, 9, 2, one(2)), told(1, 9, 12, 1, one(3))}, rec(6, 1, 7), []impl.PanPane{gone(1, 4, 9, 2), gone(1, 9, 12, 1), timely(1, 4, 12, agg(3, 12, 2, 7))}, nil},
	} {
		j := withSources(withLate(c.job, 4, false), 2, 2)
		k := task(0, in(12, c.x, mark(30)), in(20, mark(30)))
		k.Op.Rows = c.rows
		k.Pend = txn(0, told1, late1)
		after, ready := stepTo(t, j, k, 0)
		want := txn(0, slices.Concat(told1, c.panes), slices.Concat(late1, c.lates))
		if !sameTxn(after.Pend, want) || len(ready) != 0 || after.Ins[0].Mark != 12 || after.Ins[1].Mark != 20 {
			t.Errorf("%s: %+v %v, not %+v", c.name, after, ready, want)
		}
	}
}

func TestP35AMarkBehindWhatWasTold(t *testing.T) {
	j := withSources(withLate(plainJob(impl.WinFixed, 5, 0), 4, false), 2, 2)
	told1, late1 := []impl.PanPane{timely(3, 0, 5, one(-1)), gone(2, 1, 4, 6)}, []impl.LatPair{lat(rec(1, 3, 5), 0, 5)}
	rows := []impl.OpRow{told(0, 5, 10, 2, one(1)), untold(1, 10, 15, one(4)), untold(1, 15, 20, one(5)), untold(2, 10, 15, one(6)), untold(2, 20, 25, one(7))}
	both := []impl.PanPane{timely(1, 10, 15, one(4)), timely(2, 10, 15, one(6))}
	for _, c := range []struct {
		name  string
		at    int
		to    int
		marks []int
		panes []impl.PanPane
		rows  []impl.OpRow
	}{
		{"earlier than the channel's", 0, 5, []int{12, 20}, nil, rows},
		{"the channel's", 0, 12, []int{12, 20}, nil, rows},
		{"later than the channel's, and no window is over", 0, 13, []int{13, 20}, nil, rows},
		{"later, and two windows are over", 0, 15, []int{15, 20}, both, []impl.OpRow{told(1, 10, 15, 1, one(4)), untold(1, 15, 20, one(5)), told(2, 10, 15, 1, one(6)), untold(2, 20, 25, one(7))}},
		{"as late as the other one's", 0, 20, []int{20, 20}, []impl.PanPane{both[0], timely(1, 15, 20, one(5)), both[1]}, []impl.OpRow{told(1, 15, 20, 1, one(5)), untold(2, 20, 25, one(7))}},
		{"later than the other one's, which is now the least", 0, 60, []int{60, 20}, []impl.PanPane{both[0], timely(1, 15, 20, one(5)), both[1]}, []impl.OpRow{told(1, 15, 20, 1, one(5)), untold(2, 20, 25, one(7))}},
		{"the end, and the other one's is now the least", 0, 1000, []int{1000, 20}, []impl.PanPane{both[0], timely(1, 15, 20, one(5)), both[1]}, []impl.OpRow{told(1, 15, 20, 1, one(5)), untold(2, 20, 25, one(7))}},
		{"by the other one, later, while that of the first is the least", 1, 60, []int{12, 60}, nil, rows},
		{"by the other one, the end", 1, 1000, []int{12, 1000}, nil, rows},
		{"by the other one, earlier than its own, later than the operator's", 1, 15, []int{12, 20}, nil, rows},
		{"by the other one, earlier than all", 1, 1, []int{12, 20}, nil, rows},
	} {
		k := task(0, in(12), in(20))
		k.Op.Rows = rows
		k.Pend = txn(0, told1, late1)
		after, ready := give(t, j, k, c.at, mark(c.to))
		if want := txn(0, slices.Concat(told1, c.panes), late1); !sameTxn(after.Pend, want) || len(ready) != 0 {
			t.Errorf("%s: %+v %v, not %+v", c.name, after.Pend, ready, want)
		}
		if after.Ins[0].Mark != c.marks[0] || after.Ins[1].Mark != c.marks[1] || !sameOperator(after.Op, operator(min(c.marks[0], c.marks[1]), c.rows...)) {
			t.Errorf("%s: %+v", c.name, after)
		}
	}
}

// checkTold holds what a step of a record or a mark tells against OpTake and OpMark.
func checkTold(t *testing.T, j impl.JobJob, k impl.TskTask, at int) impl.TskTask {
	t.Helper()
	x := k.Ins[at].Queue[0]
	after, ready := stepTo(t, j, k, at)
	var op impl.OpState
	var panes []impl.PanPane
	var lates []impl.LatPair
	if x.Kind == impl.ItmRec {
		op, panes, lates = impl.OpTake(j, k.Op, x)
	} else {
		op, panes = impl.OpMark(j, k.Op, impl.TskLow(after))
	}
	want := txn(0, slices.Concat(k.Pend.Panes, panes), slices.Concat(k.Pend.Lates, lates))
	if !sameOperator(after.Op, op) || !sameTxn(after.Pend, want) || len(ready) != 0 || after.Wall != k.Wall || impl.TskHeld(after) != impl.TskHeld(k) {
		t.Fatalf("%+v, %+v, %v by %d: %+v %v", j, k, x, at, after, ready)
	}
	return after
}

func TestP35OfAnyTask(t *testing.T) {
	r := fixed()
	panes, lates := 0, 0
	for range 15000 {
		j := anyJob(r)
		k := anyTask(r, j)
		at := r.Intn(j.Sources)
		if k.Ins[at].Held || len(k.Ins[at].Queue) == 0 || k.Ins[at].Queue[0].Kind == impl.ItmWall {
			continue
		}
		after := checkTold(t, j, k, at)
		panes += len(after.Pend.Panes) - len(k.Pend.Panes)
		lates += len(after.Pend.Lates) - len(k.Pend.Lates)
	}
	if panes < 1000 || lates < 500 {
		t.Fatalf("%d panes, %d pairs", panes, lates)
	}
}

// mixed is a few lists in one, in each way that keeps the order of each: places of lists.
func mixed(left []int) [][]int {
	all := [][]int{}
	done := true
	for i, n := range left {
		if n == 0 {
			continue
		}
		done = false
		fewer := slices.Clone(left)
		fewer[i]--
		for _, rest := range mixed(fewer) {
			all = append(all, append([]int{i}, rest...))
		}
	}
	if done {
		return [][]int{nil}
	}
	return all
}

// checkMarks lets marks come by channels in one order, and holds each step against the promise's words.
func checkMarks(t *testing.T, j impl.JobJob, k impl.TskTask, by [][]int, order []int) impl.TskTask {
	t.Helper()
	next := make([]int, len(by))
	for _, at := range order {
		before := k
		to := by[at][next[at]]
		next[at]++
		k, _ = give(t, j, k, at, mark(to))
		for i, c := range k.Ins {
			want := before.Ins[i].Mark
			if i == at {
				want = max(want, to)
			}
			if c.Mark != want {
				t.Fatalf("%v, %v: mark %d by %d: %+v", by, order, to, at, k)
			}
		}
		if k.Op.Mark != impl.TskLow(k) || k.Op.Mark != leastMark(k.Ins) || k.Op.Mark < before.Op.Mark {
			t.Fatalf("%v, %v: mark %d by %d: %+v", by, order, to, at, k)
		}
	}
	return k
}

func TestP36MarksOfTwoAndThreeInAnyOrder(t *testing.T) {
	for _, by := range [][][]int{
		{{5, 12, 30, 1000}}, {{3, 9, 1000}, {4, 8, 1000}}, {{1000}, {1, 2, 60, 1000}}, {{12, 7, 1000, 3}, {9, 9, 1000, 1000}},
		{{6, 1000}, {11, 1000}, {16, 1000}}, {{1000}, {1000}, {1000}}, {{1000, 5}, {20, 1000}, {7, 6, 1000}},
	} {
		var counts []int
		for _, marks := range by {
			counts = append(counts, len(marks))
		}
		for _, kind := range eachKind() {
			j := withSources(withLate(kind, 3, false), len(by), 2)
			first := impl.TskNew(j, operator(0), make([]int, len(by)))
			for i, x := range []impl.ItmItem{rec(2, 0, 4), rec(9, 1, 5), rec(14, 1, -3), rec(60, 3, 1)} {
				first, _ = give(t, j, first, i%len(by), x)
			}
			for _, order := range mixed(counts) {
				k := checkMarks(t, j, first, by, order)
				if k.Op.Mark != 1000 || len(k.Op.Rows) != 0 || len(k.Pend.Lates) != 0 {
					t.Fatalf("%v, %v: %+v", by, order, k)
				}
				recs := []impl.ItmItem{rec(2, 0, 4), rec(9, 1, 5), rec(14, 1, -3), rec(60, 3, 1)}
				if rows := impl.TabOf(k.Pend.Panes, j.Piece); !impl.TabSame(rows, impl.SpcTable(j, recs)) || !impl.PanSound(k.Pend.Panes) {
					t.Fatalf("%v, %v: %v", by, order, k.Pend.Panes)
				}
			}
		}
	}
}

func TestP36NoMarkGoesBack(t *testing.T) {
	r := fixed()
	for range 300 {
		j := anyJob(r)
		k := impl.TskNew(j, operator(0), make([]int, j.Sources))
		for range 80 {
			at := r.Intn(j.Sources)
			before := k
			if r.Intn(2) == 0 {
				k, _ = checkPutIn(t, j, k, at, nearItem(r, k.Op.Mark, k.Wall))
			} else {
				k, _, _ = checkStep(t, j, k, at)
			}
			for i, c := range k.Ins {
				if c.Mark < before.Ins[i].Mark {
					t.Fatalf("%+v: %+v, then %+v", j, before, k)
				}
			}
			if k.Op.Mark != impl.TskLow(k) || k.Op.Mark < before.Op.Mark || k.Wall < before.Wall || !impl.TskOk(j, k) {
				t.Fatalf("%+v: %+v, then %+v", j, before, k)
			}
		}
	}
}

// guardedTask is a task whose lists lie each ahead of others that nobody may touch.
type guardedTask struct {
	task   impl.TskTask
	queues []guarded[impl.ItmItem]
	rows   guarded[impl.OpRow]
	panes  guarded[impl.PanPane]
	lates  guarded[impl.LatPair]
	whole  []impl.TskIn
}

func guardTask(k impl.TskTask) guardedTask {
	g := guardedTask{
		task:  k,
		rows:  guard(k.Op.Rows, told(77, 77, 77, 77, one(7))),
		panes: guard(k.Pend.Panes, gone(77, 77, 77, 77)),
		lates: guard(k.Pend.Lates, lat(rec(77, 77, 77), 77, 77)),
	}
	for _, c := range k.Ins {
		q := guard(c.Queue, wall(77))
		g.queues = append(g.queues, q)
		g.whole = append(g.whole, impl.TskIn{Queue: q.given, Mark: c.Mark, Held: c.Held})
	}
	g.whole = append(g.whole, in(77), held(77), in(77))
	g.task.Ins = g.whole[:len(k.Ins)]
	g.task.Op.Rows, g.task.Pend.Panes, g.task.Pend.Lates = g.rows.given, g.panes.given, g.lates.given
	return g
}

func (g guardedTask) check(t *testing.T, by string, was impl.TskTask) {
	t.Helper()
	for _, q := range g.queues {
		q.check(t, by)
	}
	g.rows.check(t, by)
	g.panes.check(t, by)
	g.lates.check(t, by)
	if !sameTask(g.task, was) || !slices.EqualFunc(g.whole[len(was.Ins):], []impl.TskIn{in(77), held(77), in(77)}, sameIn) {
		t.Fatalf("%s has turned its argument: %+v, was %+v", by, g.whole, was)
	}
}

// spoil writes over all lists of a task, up to the ends of their room.
func spoil(k impl.TskTask) {
	for _, c := range k.Ins {
		fill(c.Queue, rec(66, 66, 66))
	}
	fill(k.Ins, in(66))
	fill(k.Op.Rows, told(66, 66, 66, 66, one(6)))
	spoilTxn(k.Pend)
}

func spoilTxn(x impl.TskTxn) {
	fill(x.Panes, gone(66, 66, 66, 66))
	fill(x.Lates, lat(rec(66, 66, 66), 66, 66))
}

func TestTasksLeaveTheirArguments(t *testing.T) {
	r := fixed()
	for range 4000 {
		j := anyJob(r)
		was := anyTask(r, j)
		g := guardTask(was)
		at, x := r.Intn(j.Sources+1), nearItem(r, was.Op.Mark, was.Wall)
		marks := guard(slices.Repeat([]int{was.Op.Mark}, j.Sources), 77)
		spoil(impl.TskNew(j, g.task.Op, marks.given))
		put, _ := impl.TskPut(j, g.task, at, x)
		spoil(put)
		after, ready, _ := impl.TskStep(j, g.task, at)
		spoil(after)
		for _, y := range ready {
			spoilTxn(y)
		}
		fill(ready, txn(66, nil, nil))
		impl.TskOk(j, g.task)
		impl.TskRoom(j, g.task, at)
		impl.TskLow(g.task)
		impl.TskHeld(g.task)
		marks.check(t, "TskNew")
		g.check(t, "a function of a task", was)
	}
}

// An answer stays as it was, whatever is written into the argument, and into any other list of it.
func TestTasksAnswerInMemoryOfTheirOwn(t *testing.T) {
	r := fixed()
	readies := 0
	for range 4000 {
		j := anyJob(r)
		was := anyTask(r, j)
		at, x := r.Intn(j.Sources+1), nearItem(r, was.Op.Mark, was.Wall)
		if at < j.Sources && r.Intn(3) == 0 {
			for i := range was.Ins {
				was.Ins[i].Held = i != at
			}
			was.Ins[at].Queue = []impl.ItmItem{wall(max(was.Wall, 1))}
		}
		given := copyOf(was)
		marks := slices.Repeat([]int{was.Op.Mark}, j.Sources)
		made := impl.TskNew(j, given.Op, marks)
		put, _ := impl.TskPut(j, given, at, x)
		after, ready, _ := impl.TskStep(j, given, at)
		spoil(given)
		fill(marks, 66)
		wantPut, _ := withItem(j, was, at, x)
		wantAfter, wantReady, _ := stepped(j, was, at)
		if !sameOperator(made.Op, was.Op) || !sameTask(put, wantPut) || !sameTask(after, wantAfter) || !slices.EqualFunc(ready, wantReady, sameTxn) {
			t.Fatalf("%+v, %+v: an answer has turned: %+v, %+v, %+v %v", j, was, made, put, after, ready)
		}
		readies += len(ready)
		checkApart(t, made)
		checkApart(t, put)
		checkApart(t, after, ready...)
	}
	if readies < 300 {
		t.Fatalf("%d ready", readies)
	}
}

// checkApart writes over each list of an answer, up to the end of its room: no other one may turn.
func checkApart(t *testing.T, k impl.TskTask, ready ...impl.TskTxn) {
	t.Helper()
	check := func(what string, wantTask impl.TskTask, wantReady []impl.TskTxn) {
		t.Helper()
		if !sameTask(k, wantTask) || !slices.EqualFunc(ready, wantReady, sameTxn) {
			t.Fatalf("%s of an answer shares memory with another list of it: %+v %v, not %+v %v", what, k, ready, wantTask, wantReady)
		}
	}
	want := copyOf(k)
	var wantReady []impl.TskTxn
	for _, x := range ready {
		wantReady = append(wantReady, txn(x.N, slices.Clone(x.Panes), slices.Clone(x.Lates)))
	}
	for i, x := range ready {
		spoilTxn(x)
		spoilTxn(wantReady[i])
		check("a transaction", want, wantReady)
	}
	for i, c := range k.Ins {
		fill(c.Queue, rec(66, 66, 66))
		fill(want.Ins[i].Queue, rec(66, 66, 66))
		check("a queue", want, wantReady)
	}
	fill(k.Op.Rows, told(66, 66, 66, 66, one(6)))
	fill(want.Op.Rows, told(66, 66, 66, 66, one(6)))
	check("the rows", want, wantReady)
	fill(k.Pend.Panes, gone(66, 66, 66, 66))
	fill(want.Pend.Panes, gone(66, 66, 66, 66))
	check("the panes", want, wantReady)
	fill(k.Pend.Lates, lat(rec(66, 66, 66), 66, 66))
	fill(want.Pend.Lates, lat(rec(66, 66, 66), 66, 66))
	check("the pairs", want, wantReady)
}

func TestTasksAnswerTheSameEachTime(t *testing.T) {
	r := fixed()
	for range 200 {
		j := anyJob(r)
		k := anyTask(r, j)
		at := r.Intn(j.Sources)
		for range 10 {
			checkStep(t, j, k, at)
			checkPutIn(t, j, k, at, mark(7))
		}
	}
}

// The empty list and the nil list are the same value.
func TestTasksOfEmptyLists(t *testing.T) {
	j := plainJob(impl.WinFixed, 5, 0)
	empty := impl.TskTask{
		Ins: []impl.TskIn{in(0, []impl.ItmItem{}...), {Queue: []impl.ItmItem{}}}, Op: impl.OpState{Rows: []impl.OpRow{}},
		Pend: txn(0, []impl.PanPane{}, []impl.LatPair{}),
	}
	if !impl.TskOk(j, empty) {
		t.Error("empty lists are not ok")
	}
	checkIdle(t, j, empty, 0)
	checkPutIn(t, j, empty, 1, wall(1))
	if k := impl.TskNew(j, impl.OpState{Rows: []impl.OpRow{}}, []int{0, 0}); !sameTask(k, task(0, in(0), in(0))) {
		t.Errorf("%+v", k)
	}
	if k := impl.TskNew(j, operator(0), []int{}); !isNothing(k) {
		t.Errorf("%+v", k)
	}
}

// anyNumbersTask is a task of any numbers.
func anyNumbersTask(r *rand.Rand) impl.TskTask {
	n := func() int { return pick(r, edges) }
	items := func(*rand.Rand) impl.ItmItem { return impl.ItmItem{Kind: n(), T: n(), Key: n(), V: n(), N: n()} }
	known := func() impl.AggAgg { return agg(n(), n(), n(), n()) }
	return impl.TskTask{
		Ins: several(r, 5, func(r *rand.Rand) impl.TskIn {
			return impl.TskIn{Queue: several(r, 6, items), Mark: n(), Held: r.Intn(2) == 0}
		}),
		Op: operator(n(), several(r, 3, func(r *rand.Rand) impl.OpRow {
			return impl.OpRow{Key: n(), Win: win(n(), n()), All: known(), Fresh: known(), Told: n(), Timely: r.Intn(2) == 0}
		})...),
		Wall: n(),
		Pend: txn(n(), several(r, 3, anyPane), several(r, 3, func(r *rand.Rand) impl.LatPair { return lat(items(r), n(), n()) })),
	}
}

func TestTasksAnswerAtEveryArgument(t *testing.T) {
	r := fixed()
	for range 15000 {
		j := anyJob(r)
		k := anyTask(r, j)
		switch r.Intn(4) {
		case 0:
			k = brokenTask(r, brokenTask(r, turnedBy(k, func(k *impl.TskTask) { k.Ins = append(k.Ins, in(0), in(0)) })))
		case 1:
			k = anyNumbersTask(r)
		case 2:
			j = anyNumbersJob(r)
		}
		at, x := pick(r, edges), anyItem(r)
		if r.Intn(2) == 0 {
			at = r.Intn(4)
		}
		marks := several(r, 4, func(r *rand.Rand) int { return pick(r, edges) })
		quiet(t, []any{j, k, at, x, marks}, func() {
			checkPutIn(t, j, k, at, x)
			checkStep(t, j, k, at)
			impl.TskNew(j, k.Op, marks)
			impl.TskLow(k)
			impl.TskHeld(k)
			if impl.TskOk(j, k) != isTask(j, k) {
				t.Fatalf("%+v %+v", j, k)
			}
		})
	}
	for _, n := range edges {
		quiet(t, n, func() {
			c := impl.TskIn{Queue: []impl.ItmItem{{Kind: n, T: n, Key: n, V: n, N: n}}, Mark: n, Held: n%2 == 0}
			for _, k := range []impl.TskTask{{}, {Wall: n}, {Ins: []impl.TskIn{c}, Op: operator(n), Wall: n, Pend: txn(n, nil, nil)}, task(0, in(n), in(n)), task(n, in(0, wall(1)), in(5))} {
				for _, j := range append(eachKind(), impl.JobJob{}, impl.JobJob{Sources: n, Tasks: n, Kind: n, Size: n, Step: n, Late: n, Tell: n, Least: n, Room: n}) {
					for _, at := range []int{n, 0, math.MinInt, math.MaxInt} {
						checkPutIn(t, j, k, at, impl.ItmItem{Kind: impl.ItmWall, N: n})
						checkStep(t, j, k, at)
					}
					impl.TskNew(j, operator(n), []int{n, n})
				}
			}
		})
	}
}
