package tests

import (
	"math"
	"slices"
	"testing"

	"loop.example/freshet/impl"
)

// butSource is a flow without what EvSrc of a source may turn.
func butSource(f impl.FloFlow, at int) impl.FloFlow {
	return flowBy(f, func(f *impl.FloFlow) {
		f.Srcs[at], f.Ckp.Src[at] = impl.FloSrc{}, 0
		for i := range f.Tasks {
			f.Tasks[i].Ins[at].Queue = nil
		}
	})
}

// butTask is a flow without what EvTask of a task may turn.
func butTask(f impl.FloFlow, at int) impl.FloFlow {
	return flowBy(f, func(f *impl.FloFlow) {
		f.Tasks[at], f.Sinks[at].Ready, f.Ckp.Tsk[at], f.Ckp.Snaps[at] = impl.TskTask{}, nil, false, impl.CkpSnap{}
	})
}

// butSink is a flow without one sink.
func butSink(f impl.FloFlow, at int) impl.FloFlow {
	return flowBy(f, func(f *impl.FloFlow) { f.Sinks[at] = impl.FloSink{} })
}

// butCkp is a flow without its checkpoints.
func butCkp(f impl.FloFlow) impl.FloFlow {
	return flowBy(f, func(f *impl.FloFlow) { f.Ckp = impl.CkpState{} })
}

// sent is the item that has come into the channel from a source to each task, between two flows: nothing, where none has.
func sent(t *testing.T, f, g impl.FloFlow, at int) []impl.ItmItem {
	t.Helper()
	var items []impl.ItmItem
	for i := range f.Tasks {
		before, after := f.Tasks[i].Ins[at].Queue, g.Tasks[i].Ins[at].Queue
		n := len(before)
		if len(after) > n+1 || len(after) < n || !slices.Equal(after[:n], before) {
			t.Fatalf("from %v to %v", before, after)
		}
		items = append(items, append(slices.Clone(after[n:]), impl.ItmItem{})[0])
	}
	return items
}

// checkP18 holds EvSrc of a source that there is against the promise's words.
func checkP18(t *testing.T, f impl.FloFlow, at int) impl.FloFlow {
	t.Helper()
	g := checkHappens(t, f, atSource(at))
	items := sent(t, f, g, at)
	none := make([]impl.ItmItem, len(items))
	before, after := f.Srcs[at], g.Srcs[at]
	if !sameFlow(butSource(f, at), butSource(g, at)) {
		t.Fatalf("source %d of %+v has turned something else: %+v", at, f, g)
	}
	switch {
	case sameFlow(f, g):
		return g
	case after.Wall != before.Wall:
		if after.At != before.At || g.Ckp.Src[at] != after.At || !slices.Equal(items, times(len(items), wall(f.Ckp.N))) {
			t.Fatalf("a wall of source %d of %+v: %+v", at, f, g)
		}
	default:
		x := f.Logs[at][before.At]
		isOut := x.Kind == impl.ItmRec && x.V < f.Job.Least
		for i := range none {
			if !isOut && (x.Kind == impl.ItmMark || x.Key%f.Job.Tasks == i) {
				none[i] = x
			}
		}
		if after.At != before.At+1 || g.Ckp.Src[at] != f.Ckp.Src[at] || !slices.Equal(items, none) {
			t.Fatalf("%v of source %d of %+v: %+v", x, at, f, g)
		}
	}
	return g
}

// fullFrom fills the channel from a source to a task.
func fullFrom(f impl.FloFlow, at, task int) impl.FloFlow {
	return flowBy(f, func(f *impl.FloFlow) { f.Tasks[task].Ins[at].Queue = times(f.Job.Room, rec(50, task, 9)) })
}

// ofLog is a flow at its beginning with that log at each source.
func ofLog(j impl.JobJob, log ...impl.ItmItem) impl.FloFlow {
	return impl.FloNew(j, slices.Repeat([][]impl.ItmItem{append(log, mark(1000))}, j.Sources))
}

// eachRoom is a job of each number of sources and tasks, with each Room.
func eachRoom() []impl.JobJob {
	var all []impl.JobJob
	for sources := 1; sources <= 3; sources++ {
		for tasks := 1; tasks <= 2; tasks++ {
			for room := 1; room <= 4; room++ {
				all = append(all, withTasks(withSources(plainJob(impl.WinFixed, 5, 0), sources, room), sources, tasks))
			}
		}
	}
	return all
}

func TestP18ARecordBelowLeastOfLeastAndAboveIt(t *testing.T) {
	for _, j := range eachRoom() {
		for _, least := range []int{-9, -3, 0, 1, 8, 9} {
			for _, v := range []int{-9, least - 1, least, least + 1, 9} {
				for key := range 4 {
					if v < -9 || v > 9 {
						continue
					}
					j.Least = least
					f := ofLog(j, rec(7, key, v))
					for at := range j.Sources {
						checkRecord(t, f, at, key, v < least)
					}
				}
			}
		}
	}
}

// checkRecord sends the record of a key at a source's place, with and without room.
func checkRecord(t *testing.T, f impl.FloFlow, at, key int, isOut bool) {
	t.Helper()
	theirs := key % f.Job.Tasks
	items := sent(t, f, checkP18(t, f, at), at)
	for task, x := range items {
		if goes := !isOut && task == theirs; goes != (x == f.Logs[at][0]) || !goes && x != (impl.ItmItem{}) {
			t.Fatalf("%+v, source %d: %v", f, at, items)
		}
	}
	if g := checkP18(t, f, at); g.Srcs[at].At != 1 {
		t.Fatalf("%+v, source %d: %+v", f, at, g)
	}
	for task := range f.Tasks {
		full := fullFrom(f, at, task)
		g := checkP18(t, full, at)
		if !isOut && task == theirs {
			checkStays(t, "a record without room", full, atSource(at))
		} else if g.Srcs[at].At != 1 {
			t.Fatalf("%+v, source %d: %+v", full, at, g)
		}
	}
	for other := range f.Srcs {
		if other != at && checkP18(t, fullFrom(f, other, theirs), at).Srcs[at].At != 1 {
			t.Fatalf("%+v: source %d waits for room from %d", f, at, other)
		}
	}
}

func TestP18AMark(t *testing.T) {
	for _, j := range eachRoom() {
		for _, to := range []int{1, 7, 60} {
			f := ofLog(j, mark(to))
			for at := range j.Sources {
				g := checkP18(t, f, at)
				if g.Srcs[at].At != 1 || !slices.Equal(sent(t, f, g, at), times(j.Tasks, mark(to))) {
					t.Fatalf("%+v, source %d: %+v", f, at, g)
				}
				for task := range j.Tasks {
					checkStays(t, "a mark, with one channel full", fullFrom(f, at, task), atSource(at))
				}
			}
		}
	}
}

// walledAt is a flow with a checkpoint of 5 under way or given up, and sources that have sent walls up to a number.
func walledAt(f impl.FloFlow, n int, isOpen bool) impl.FloFlow {
	return flowBy(f, func(f *impl.FloFlow) {
		f.Ckp.N, f.Ckp.Open = 5, isOpen
		for i := range f.Srcs {
			f.Srcs[i].Wall = n
		}
	})
}

func TestP18AWall(t *testing.T) {
	for _, j := range eachRoom() {
		for _, x := range []impl.ItmItem{rec(7, 1, 4), rec(7, 1, -9), mark(7)} {
			for at := range j.Sources {
				for n := range 6 {
					open := walledAt(ofLog(j, x), n, true)
					g := checkP18(t, open, at)
					if isDue := n < 5; isDue != (g.Srcs[at].Wall != n) || isDue != (g.Srcs[at].At == 0) || isDue != (g.Ckp.Src[at] == 0) {
						t.Fatalf("%+v, source %d: %+v", open, at, g)
					}
					if g := checkP18(t, walledAt(ofLog(j, x), n, false), at); g.Srcs[at] != (impl.FloSrc{At: 1, Wall: n}) || g.Ckp.Src[at] != -1 {
						t.Fatalf("none under way, source %d: %+v", at, g)
					}
					for task := range j.Tasks {
						if n < 5 {
							checkStays(t, "a wall, with one channel full", fullFrom(open, at, task), atSource(at))
						}
					}
				}
			}
		}
	}
}

// A wall for which there is no room holds up what is behind it, even what would be left out or go to another task.
func TestP18NothingGoesByAWallThatWaits(t *testing.T) {
	j := plainSized(2, 2)
	for key := range 4 {
		for _, v := range []int{-9, 4} {
			f := fullFrom(walledAt(ofLog(j, rec(7, key, v)), 4, true), 1, key%2)
			checkStays(t, "a wall that waits", f, atSource(1))
			checkStays(t, "a wall that waits", fullFrom(walledAt(ofLog(j, rec(7, key, v)), 4, true), 1, 1-key%2), atSource(1))
			if g := checkP18(t, f, 0); g.Srcs[0].Wall != 5 {
				t.Fatalf("the other source: %+v", g)
			}
		}
	}
}

func TestP18TheEndOfALog(t *testing.T) {
	for _, j := range eachRoom() {
		f := flowBy(ofLog(j, rec(7, 1, 4)), func(f *impl.FloFlow) {
			for i := range f.Srcs {
				f.Srcs[i].At = 2
			}
		})
		for at := range j.Sources {
			checkStays(t, "the end of a log", f, atSource(at))
			checkStays(t, "the end of a log, a checkpoint given up", walledAt(f, 4, false), atSource(at))
			checkStays(t, "the end of a log, the wall sent", walledAt(f, 5, true), atSource(at))
			g := checkP18(t, walledAt(f, 4, true), at)
			if g.Srcs[at] != (impl.FloSrc{At: 2, Wall: 5}) || g.Ckp.Src[at] != 2 || !slices.Equal(sent(t, f, g, at), times(j.Tasks, wall(5))) {
				t.Fatalf("%+v, source %d: %+v", j, at, g)
			}
			last := flowBy(f, func(f *impl.FloFlow) { f.Srcs[at].At = 1 })
			if g := checkP18(t, last, at); g.Srcs[at].At != 2 || !slices.Equal(sent(t, last, g, at), times(j.Tasks, mark(1000))) {
				t.Fatalf("%+v, source %d: %+v", j, at, g)
			}
		}
	}
}

func TestP18SourcesThatAreNot(t *testing.T) {
	for _, j := range sizedJobs() {
		for _, f := range []impl.FloFlow{ofLog(j, rec(7, 1, 4)), walledAt(ofLog(j, rec(7, 1, 4)), 4, true)} {
			for _, at := range append([]int{j.Sources, j.Sources + 1, -2}, edges...) {
				if at < 0 || at >= j.Sources {
					checkStays(t, "a source that is not", f, atSource(at))
				}
			}
			for at := range j.Sources {
				if g := impl.FloStep(f, impl.EvEvent{Kind: impl.EvSrc, At: at, In: math.MaxInt}); !sameFlow(g, checkP18(t, f, at)) {
					t.Fatalf("In is something to source %d: %+v", at, g)
				}
			}
		}
	}
}

func TestP13RoomInAChannel(t *testing.T) {
	for _, j := range eachRoom() {
		for at := range j.Sources {
			f := ofLog(j, rec(1, 0, 9), rec(2, 1, 9), mark(3), rec(4, 0, 9), mark(5), rec(6, 1, 9), mark(7), rec(8, 0, 9), mark(9))
			for n := range 40 {
				f = checkP18(t, f, at)
				if n == 5 {
					f = checkHappens(t, f, toAsk)
				}
				most := 0
				for _, k := range f.Tasks {
					most = max(most, len(k.Ins[at].Queue))
				}
				if most > j.Room || f.Srcs[at].At > len(f.Logs[at]) || !impl.FloOk(f) {
					t.Fatalf("%+v", f)
				}
				if n > 20 && most < j.Room {
					t.Fatalf("there is room, and nothing goes: %+v", f)
				}
			}
			checkStays(t, "a full channel", f, atSource(at))
			for other := range j.Sources {
				if other != at && checkP18(t, f, other).Srcs[other].Wall != 1 {
					t.Fatalf("source %d is held up by %d", other, at)
				}
			}
		}
	}
}

// checkP19 holds EvTask of a task that there is against the promise's words.
func checkP19(t *testing.T, f impl.FloFlow, at, in int) impl.FloFlow {
	t.Helper()
	g := checkHappens(t, f, atTask(at, in))
	if !sameFlow(butTask(f, at), butTask(g, at)) {
		t.Fatalf("task %d of %+v has turned something else: %+v", at, f, g)
	}
	after, _, _ := impl.TskStep(f.Job, f.Tasks[at], in)
	if !sameFlow(f, g) && !sameTask(g.Tasks[at], after) {
		t.Fatalf("task %d of %+v is not as behind TskStep: %+v", at, f, g)
	}
	return g
}

func TestP19TasksAndChannelsThatAreNot(t *testing.T) {
	for _, j := range sizedJobs() {
		f := flowBy(ofLog(j, rec(7, 1, 4)), func(f *impl.FloFlow) {
			for i := range f.Tasks {
				for k := range f.Tasks[i].Ins {
					f.Tasks[i].Ins[k].Queue = []impl.ItmItem{rec(7, 1, 4), mark(9)}
				}
			}
		})
		for _, n := range append([]int{-2, 6}, edges...) {
			for in := range j.Sources {
				if n < 0 || n >= j.Tasks {
					checkStays(t, "a task that is not", f, atTask(n, in))
				}
			}
			for at := range j.Tasks {
				if n < 0 || n >= j.Sources {
					checkStays(t, "a channel that is not", f, atTask(at, n))
				}
			}
			checkStays(t, "none of both", f, atTask(-1, n))
		}
		for at := range j.Tasks {
			for in := range j.Sources {
				g := checkP19(t, f, at, in)
				if !slices.Equal(g.Tasks[at].Ins[in].Queue, []impl.ItmItem{mark(9)}) || len(g.Tasks[at].Op.Rows) == 0 {
					t.Fatalf("task %d, channel %d of %+v: %+v", at, in, f, g)
				}
			}
		}
	}
}

func TestP19ChannelsThatAreHeldOrEmpty(t *testing.T) {
	for _, j := range sizedJobs() {
		for at := range j.Tasks {
			for in := range j.Sources {
				f := ofLog(j, rec(7, 1, 4))
				checkStays(t, "an empty channel", f, atTask(at, in))
				if j.Sources == 1 {
					continue
				}
				held := flowBy(f, func(f *impl.FloFlow) {
					f.Ckp.N, f.Ckp.Open = 1, true
					f.Tasks[at].Wall, f.Tasks[at].Ins[in].Held = 1, true
					f.Tasks[at].Ins[in].Queue = []impl.ItmItem{rec(7, 1, 4)}
				})
				checkStays(t, "a channel that is held", held, atTask(at, in))
				free := flowBy(held, func(f *impl.FloFlow) { f.Tasks[at].Ins[in].Held = false })
				if g := checkP19(t, free, at, in); len(g.Tasks[at].Op.Rows) == 0 {
					t.Fatalf("%+v", g)
				}
			}
		}
	}
}

// atLastWall is a flow whose task has told something and meets the last wall of a number by a channel next. Of the checkpoints 20 is under way, and a number is safe.
func atLastWall(j impl.JobJob, at, in, n, safeN int, panes, lates int) impl.FloFlow {
	return flowBy(ofLog(j, rec(7, 1, 4)), func(f *impl.FloFlow) {
		f.Ckp.N, f.Ckp.Open, f.Ckp.Safe.N = 20, true, safeN
		k := &f.Tasks[at]
		k.Wall, k.Pend = n, txn(0, paneTimes(panes), lateTimes(lates))
		k.Op = operator(12, told(1, 5, 10, 1, one(4)), untold(1, 10, 15, one(4)))
		for i := range k.Ins {
			k.Ins[i] = impl.TskIn{Mark: 12 + i, Held: i != in}
		}
		k.Ins[in].Queue = []impl.ItmItem{wall(n), rec(13, 1, 2)}
		if j.Room == 1 {
			k.Ins[in].Queue = k.Ins[in].Queue[:1]
		}
	})
}

// withReady is a flow with a sink in which something is ready.
func withReady(f impl.FloFlow, at, n int, ready ...impl.TskTxn) impl.FloFlow {
	return flowBy(f, func(f *impl.FloFlow) { f.Sinks[at].N, f.Sinks[at].Ready = n, ready })
}

func TestP19AsManyAsMayBeReady(t *testing.T) {
	for _, j := range sizedJobs() {
		for at := range j.Tasks {
			for in := range j.Sources {
				f := atLastWall(j, at, in, 20, 13, 1, 1)
				full := withReady(f, at, 1, readyTimes(2, 12)...)
				checkStays(t, "12 that are safe", full, atTask(at, in))
				for _, x := range []impl.ItmItem{rec(13, 1, 2), mark(14), wall(1)} {
					checkStays(t, "12 that are safe", flowBy(full, func(f *impl.FloFlow) { f.Tasks[at].Ins[in].Queue = []impl.ItmItem{x} }), atTask(at, in))
				}
				g := checkP19(t, withReady(f, at, 2, readyTimes(3, 11)...), at, in)
				if ready := g.Sinks[at].Ready; len(ready) != 12 || !sameTxn(ready[11], txn(20, paneTimes(1), lateTimes(1))) {
					t.Fatalf("11 that are safe: %+v", g)
				}
				open := flowBy(full, func(f *impl.FloFlow) { f.Ckp.Safe.N = 12 })
				g = checkP19(t, open, at, in)
				if ready := g.Sinks[at].Ready; len(ready) != 12 || !sameTxn(ready[11], txn(20, paneTimes(1), lateTimes(1))) || ready[10].N != 12 {
					t.Fatalf("12, of which the last is not safe: %+v", g)
				}
				for other := range j.Tasks {
					if other != at {
						checkP19(t, withReady(f, other, 1, readyTimes(2, 12)...), at, in)
						if g := checkP19(t, withReady(f, other, 1, readyTimes(2, 12)...), at, in); len(g.Sinks[at].Ready) != 1 {
							t.Fatalf("the sink of another task is full: %+v", g)
						}
					}
				}
			}
		}
	}
}

// The last one that is ready is not safe: what was told has room behind it, or nothing turns, whichever item comes next.
func TestP19AsManyAsMayBeInOne(t *testing.T) {
	j := plainSized(2, 2)
	for _, c := range []struct {
		panes, lates, toldPanes, toldLates int
		fits                               bool
	}{
		{0, 0, 0, 0, true}, {1499, 0, 1, 0, true}, {1500, 0, 1, 0, false}, {1499, 0, 2, 0, false}, {1500, 0, 0, 0, true}, {1500, 1500, 0, 0, true},
		{0, 1499, 0, 1, true}, {0, 1500, 0, 1, false}, {0, 1499, 0, 2, false}, {300, 20, 1200, 1480, true}, {301, 20, 1200, 1480, false}, {300, 21, 1200, 1480, false},
		{1500, 0, 0, 1200, true}, {0, 1500, 1200, 0, true}, {1499, 1499, 1, 1, true}, {1500, 1499, 1, 1, false}, {1499, 1500, 1, 1, false},
	} {
		for _, x := range []impl.ItmItem{wall(20), wall(19), rec(13, 1, 2), mark(14)} {
			f := withReady(atLastWall(j, 1, 0, 20, 13, c.toldPanes, c.toldLates), 1, 1, txn(13, paneTimes(2), nil), txn(14, paneTimes(c.panes), lateTimes(c.lates)))
			f.Tasks[1].Ins[0].Queue = []impl.ItmItem{x}
			if !c.fits {
				checkStays(t, "no room in the last one", f, atTask(1, 0))
				continue
			}
			g := checkP19(t, f, 1, 0)
			if len(g.Tasks[1].Ins[0].Queue) != 0 {
				t.Fatalf("%+v, %v: nothing was taken", c, x)
			}
			want := f.Sinks[1].Ready[1]
			if x == wall(20) {
				want = txn(20, paneTimes(c.panes+c.toldPanes), lateTimes(c.lates+c.toldLates))
			}
			if ready := g.Sinks[1].Ready; len(ready) != 2 || !sameTxn(ready[1], want) || !impl.FloOk(g) {
				t.Fatalf("%+v, %v: not the same", c, x)
			}
			// What is safe takes nothing in, so that it needs no room.
			f.Ckp.Safe.N = 14
			if g := checkP19(t, f, 1, 0); len(g.Tasks[1].Ins[0].Queue) != 0 {
				t.Fatalf("%+v, %v: nothing was taken", c, x)
			}
		}
		f := withReady(atLastWall(j, 1, 0, 20, 14, c.toldPanes, c.toldLates), 1, 1, txn(14, paneTimes(c.panes), lateTimes(c.lates)))
		if g := checkP19(t, f, 1, 0); len(g.Sinks[1].Ready) != 2 || !sameTxn(g.Sinks[1].Ready[0], f.Sinks[1].Ready[0]) {
			t.Fatalf("%+v: behind one that is safe: %+v", c, g.Sinks[1].Ready)
		}
	}
}

func TestP19ATransactionThatBecomesReady(t *testing.T) {
	a, b := []impl.PanPane{timely(1, 0, 5, one(1)), late(1, 0, 5, 1, one(2))}, []impl.PanPane{timely(3, 5, 10, one(3))}
	c, d := []impl.LatPair{lat(rec(7, 1, 4), 5, 10)}, []impl.LatPair{lat(rec(8, 3, 4), 5, 10), lat(rec(9, 3, 4), 5, 10)}
	first, second, now := txn(4, a, c), txn(9, b, nil), txn(20, b, d)
	for _, x := range []struct {
		name        string
		safeN, last int
		ready, want []impl.TskTxn
	}{
		{"the first of all", 0, 0, nil, []impl.TskTxn{now}},
		{"behind what was written", 19, 19, nil, []impl.TskTxn{now}},
		{"behind one that is safe", 4, 3, []impl.TskTxn{first}, []impl.TskTxn{first, now}},
		{"behind two that are safe", 9, 3, []impl.TskTxn{first, second}, []impl.TskTxn{first, second, now}},
		{"takes in one that is not safe", 3, 3, []impl.TskTxn{first}, []impl.TskTxn{txn(20, slices.Concat(a, b), slices.Concat(c, d))}},
		{"takes in the last one, behind one that is safe", 4, 3, []impl.TskTxn{first, second}, []impl.TskTxn{first, txn(20, slices.Concat(b, b), d)}},
		{"takes in the last one alone", 8, 3, []impl.TskTxn{first, second}, []impl.TskTxn{first, txn(20, slices.Concat(b, b), d)}},
		{"takes in the last one of two that are not safe", 3, 3, []impl.TskTxn{first, second}, []impl.TskTxn{first, txn(20, slices.Concat(b, b), d)}},
		{"of the number that was written", 13, 20, nil, nil},
		{"below the number that was written", 13, 21, nil, nil},
		{"below all, none of them safe", 13, 20, readyTimes(21, 3), readyTimes(21, 3)},
		{"of the number of the last one, which is not safe", 13, 0, []impl.TskTxn{first, txn(20, a, nil)}, []impl.TskTxn{first, txn(20, a, nil)}},
		{"below the last one, which is not safe", 13, 0, []impl.TskTxn{first, txn(21, a, nil)}, []impl.TskTxn{first, txn(21, a, nil)}},
		{"below the last one, above the first", 4, 0, []impl.TskTxn{first, txn(19, a, nil), txn(900, a, c)}, []impl.TskTxn{first, txn(19, a, nil), txn(900, a, c)}},
	} {
		for _, j := range sizedJobs() {
			for at := range j.Tasks {
				for in := range j.Sources {
					f := withReady(atLastWall(j, at, in, 20, x.safeN, 0, 0), at, x.last, x.ready...)
					f.Tasks[at].Pend = txn(0, b, d)
					g := checkP19(t, f, at, in)
					if !slices.EqualFunc(g.Sinks[at].Ready, x.want, sameTxn) || g.Sinks[at].N != x.last {
						t.Fatalf("%s: %+v, not %+v", x.name, g.Sinks[at].Ready, x.want)
					}
					if !sameTxn(g.Tasks[at].Pend, impl.TskTxn{}) || impl.TskHeld(g.Tasks[at]) != 0 {
						t.Fatalf("%s: something is left in %+v", x.name, g.Tasks[at])
					}
					// What the task tells for the checkpoint hangs on its number alone.
					if !g.Ckp.Tsk[at] || !sameSnap(g.Ckp.Snaps[at], keptOf(g.Tasks[at])) {
						t.Fatalf("%s: %+v has not told", x.name, g.Ckp)
					}
				}
			}
		}
	}
}

func TestP19OrdinarySteps(t *testing.T) {
	for _, j := range sizedJobs() {
		for at := range j.Tasks {
			for in := range j.Sources {
				for _, x := range []impl.ItmItem{rec(13, 1, 2), rec(6, 1, 2), rec(0, 1, 2), mark(13), mark(40), mark(1000), wall(19), wall(21)} {
					f := withReady(atLastWall(j, at, in, 20, 13, 1, 2), at, 3, txn(7, paneTimes(1), nil), txn(14, nil, lateTimes(1)))
					f.Tasks[at].Ins[in].Queue = []impl.ItmItem{x}
					g := checkP19(t, f, at, in)
					if len(g.Tasks[at].Ins[in].Queue) != 0 {
						t.Fatalf("%v is not taken: %+v", x, g)
					}
					if x != wall(21) && (!slices.EqualFunc(g.Sinks[at].Ready, f.Sinks[at].Ready, sameTxn) || !sameCkp(f.Ckp, g.Ckp)) {
						t.Fatalf("%v: %+v", x, g)
					}
				}
			}
		}
	}
}

// lastWall lets all sources send the wall of the checkpoint that is under way, and a task take all walls, that of one channel last: the flow ahead of that step, and behind it.
func lastWall(t *testing.T, f impl.FloFlow, at, last int) (impl.FloFlow, impl.FloFlow) {
	t.Helper()
	for src := range f.Srcs {
		for range 9 {
			if f.Srcs[src].Wall < f.Ckp.N {
				f = checkP18(t, takenUpToWalls(t, f), src)
			}
		}
	}
	before := f
	for n := range f.Srcs {
		in := (last + 1 + n) % len(f.Srcs)
		for range f.Tasks[at].Ins[in].Queue {
			if !f.Tasks[at].Ins[in].Held {
				before, f = f, checkP19(t, f, at, in)
			}
		}
	}
	return before, f
}

// takenUpToWalls lets all tasks take what is ahead of walls in their channels.
func takenUpToWalls(t *testing.T, f impl.FloFlow) impl.FloFlow {
	t.Helper()
	for at, k := range f.Tasks {
		for in, c := range k.Ins {
			for _, x := range c.Queue {
				if x.Kind == impl.ItmWall {
					break
				}
				f = checkP19(t, f, at, in)
			}
		}
	}
	return f
}

// checkP11 holds a task that tells by the last step against the promise's words.
func checkP11(t *testing.T, before, after impl.FloFlow, at int) {
	t.Helper()
	if before.Ckp.Tsk[at] || !after.Ckp.Tsk[at] {
		t.Fatalf("%+v, then %+v: task %d has not told now", before, after, at)
	}
	if !sameSnap(after.Ckp.Snaps[at], keptOf(after.Tasks[at])) || !sameOperator(before.Tasks[at].Op, after.Tasks[at].Op) {
		t.Fatalf("%+v is kept of %+v", after.Ckp.Snaps[at], after.Tasks[at])
	}
	ready, pend := after.Sinks[at].Ready, before.Tasks[at].Pend
	if len(ready) == 0 || ready[len(ready)-1].N != after.Ckp.N || !sameTxn(after.Tasks[at].Pend, impl.TskTxn{}) {
		t.Fatalf("%+v: nothing is ready", after)
	}
	x := ready[len(ready)-1]
	if n, m := len(x.Panes)-len(pend.Panes), len(x.Lates)-len(pend.Lates); n < 0 || m < 0 || !slices.Equal(x.Panes[n:], pend.Panes) || !slices.Equal(x.Lates[m:], pend.Lates) {
		t.Fatalf("%+v was told, and ready is %+v", pend, x)
	}
}

func TestP11AWallThatComesLastByEachChannel(t *testing.T) {
	for _, j := range sizedJobs() {
		for at := range j.Tasks {
			for last := range j.Sources {
				f := impl.FloNew(j, someLogs(j))
				for n := range 9 {
					for src := range j.Sources {
						f = checkP18(t, f, src)
					}
					for in := range j.Sources {
						for task := range j.Tasks {
							f = checkP19(t, f, task, in)
						}
					}
					if n%3 != 2 {
						continue
					}
					before, after := lastWall(t, checkAll(t, f, toAsk), at, last)
					checkP11(t, before, after, at)
					if x := after.Sinks[at].Ready; len(x) != 1 || !sameTxn(x[0], txn(1, before.Tasks[at].Pend.Panes, before.Tasks[at].Pend.Lates)) {
						t.Fatalf("%+v", x)
					}
					for other := range j.Tasks {
						if other != at && (after.Ckp.Tsk[other] || len(after.Sinks[other].Ready) != 0) {
							t.Fatalf("task %d has told: %+v", other, after)
						}
					}
					if behind := checkP18(t, after, 0); !sameSnap(behind.Ckp.Snaps[at], after.Ckp.Snaps[at]) {
						t.Fatalf("what is kept turns: %+v", behind)
					}
				}
			}
		}
	}
}

// A wall of a checkpoint that was given up lets what was told be ready, but tells for none, not even for the next one.
func TestP11AWallOfACheckpointThatWasGivenUp(t *testing.T) {
	for _, j := range sizedJobs() {
		for at := range j.Tasks {
			for last := range j.Sources {
				f := checkAll(t, impl.FloNew(j, someLogs(j)), toAsk)
				for src := range j.Sources {
					f = checkP18(t, f, src)
				}
				f.Tasks[at].Pend = txn(0, paneTimes(1), lateTimes(2))
				for _, events := range [][]impl.EvEvent{{toDrop}, {toDrop, toAsk}} {
					g := checkAll(t, f, events...)
					for n := range j.Sources {
						g = checkP19(t, g, at, (last+1+n)%j.Sources)
					}
					if len(g.Sinks[at].Ready) != 1 || !sameTxn(g.Sinks[at].Ready[0], txn(1, paneTimes(1), lateTimes(2))) {
						t.Fatalf("%+v: nothing is ready", g)
					}
					if slices.Contains(g.Ckp.Tsk, true) || !sameSnap(g.Ckp.Snaps[at], impl.CkpSnap{}) || g.Ckp.N != len(events) {
						t.Fatalf("%+v: a task has told", g)
					}
					if len(events) == 1 {
						continue
					}
					g.Tasks[at].Pend = txn(0, paneTimes(2), nil)
					before, after := lastWall(t, g, at, last)
					checkP11(t, before, after, at)
					if x := after.Sinks[at].Ready; len(x) != 1 || x[0].N != 2 || len(x[0].Panes) < 3 || len(x[0].Lates) < 2 {
						t.Fatalf("%+v", x)
					}
				}
			}
		}
	}
}

// Only some walls have come of what was given up when those of the next one do: the earlier ones are nothing any more.
func TestP11WallsOfTwoCheckpoints(t *testing.T) {
	j := plainSized(3, 1)
	f := checkAll(t, ofLog(j, rec(7, 1, 4)), toAsk, atSource(0), atSource(1), atTask(0, 0), toDrop, toAsk, atSource(2), atTask(0, 2))
	if k := f.Tasks[0]; k.Wall != 2 || k.Ins[0].Held || !k.Ins[2].Held || len(f.Sinks[0].Ready) != 0 {
		t.Fatalf("%+v", f)
	}
	f = checkAll(t, f, atSource(0), atSource(1), atTask(0, 0), atTask(0, 1))
	if k := f.Tasks[0]; !k.Ins[0].Held || k.Ins[1].Held || f.Ckp.Tsk[0] || len(f.Sinks[0].Ready) != 0 {
		t.Fatalf("%+v", f)
	}
	g := checkAll(t, f, atTask(0, 1))
	checkP11(t, f, g, 0)
}

func TestP20EachOfTheThree(t *testing.T) {
	r := fixed()
	open, idling, isSafe := 0, 0, 0
	for range 6000 {
		j := anyJob(r)
		f := anyFlow(r, j)
		if f.Ckp.Open {
			open++
		} else {
			idling++
		}
		kept, isNow := impl.CkpSave(j, f.Ckp)
		if isNow {
			isSafe++
		}
		for _, c := range []struct {
			kind int
			want impl.CkpState
		}{{impl.EvAsk, impl.CkpAsk(j, f.Ckp)}, {impl.EvSave, kept}, {impl.EvDrop, impl.CkpDrop(j, f.Ckp)}} {
			e := impl.EvEvent{Kind: c.kind, At: pick(r, edges), In: pick(r, edges)}
			g := checkHappens(t, f, e)
			if !sameCkp(g.Ckp, c.want) || !sameFlow(butCkp(f), butCkp(g)) {
				t.Fatalf("%+v of %+v: %+v", e, f, g)
			}
		}
	}
	if open < 500 || idling < 500 || isSafe < 500 {
		t.Fatalf("%d with one under way, %d with none, %d safe now", open, idling, isSafe)
	}
}

func TestP20OnTheWay(t *testing.T) {
	for _, j := range sizedJobs() {
		f := impl.FloNew(j, someLogs(j))
		for _, e := range []impl.EvEvent{toSave, toDrop} {
			checkStays(t, "none under way", f, e)
		}
		f = checkAll(t, f, atSource(0), toAsk)
		if f.Ckp.N != 1 || !f.Ckp.Open || f.Srcs[0].Wall != 0 || f.Srcs[0].At != 1 {
			t.Fatalf("%+v", f)
		}
		for _, e := range []impl.EvEvent{toSave, toAsk} {
			checkStays(t, "one under way", f, e)
		}
		for at := range j.Tasks {
			_, f = lastWall(t, f, at, 0)
			if at < j.Tasks-1 {
				checkStays(t, "not all have told", f, toSave)
			}
		}
		given := checkAll(t, f, toDrop)
		if given.Ckp.Open || given.Ckp.N != 1 || given.Ckp.Safe.N != 0 || !sameFlow(butCkp(given), butCkp(f)) {
			t.Fatalf("%+v", given)
		}
		checkStays(t, "given up", given, toSave)
		if next := checkAll(t, given, toAsk); next.Ckp.N != 2 || !next.Ckp.Open {
			t.Fatalf("%+v", next)
		}
		kept := checkAll(t, f, toSave)
		if kept.Ckp.Open || kept.Ckp.Safe.N != 1 || kept.Ckp.Safe.At[0] != 1 || !sameFlow(butCkp(kept), butCkp(f)) {
			t.Fatalf("%+v", kept)
		}
		for at, s := range kept.Ckp.Safe.Snaps {
			if !sameSnap(s, f.Ckp.Snaps[at]) {
				t.Fatalf("%+v", kept)
			}
		}
		checkStays(t, "safe", kept, toSave)
		checkStays(t, "safe", kept, toDrop)
	}
}

func TestCommitUpToWhatIsSafe(t *testing.T) {
	ready := []impl.TskTxn{txn(4, paneTimes(1), nil), txn(6, []impl.PanPane{timely(3, 0, 5, one(1))}, lateTimes(1)), txn(7, nil, nil), txn(9, paneTimes(2), lateTimes(2))}
	for _, j := range sizedJobs() {
		for at := range j.Tasks {
			for safeN, count := range map[int]int{0: 0, 3: 0, 4: 1, 5: 1, 6: 2, 7: 3, 8: 3, 9: 4, 10: 4, 20: 4} {
				f := withReady(walledAt(ofLog(j, rec(7, 1, 4)), 0, false), at, 2, ready...)
				f.Ckp.N, f.Ckp.Safe.N = 20, safeN
				f.Sinks[at].Panes, f.Sinks[at].Lates = []impl.PanPane{timely(2, 1, 9, one(5))}, lateTimes(3)
				want := flowCopy(f)
				for _, x := range ready[:count] {
					s := &want.Sinks[at]
					s.N, s.Panes, s.Lates = x.N, append(s.Panes, x.Panes...), append(s.Lates, x.Lates...)
				}
				want.Sinks[at].Ready = ready[count:]
				g := checkHappens(t, f, atSink(at))
				if !sameFlow(g, want) {
					t.Fatalf("up to %d: %+v, not %+v", safeN, g, want)
				}
				checkStays(t, "once more", g, atSink(at))
				for _, other := range append([]int{j.Tasks, -2, 1 - at}, edges...) {
					if other != at {
						checkStays(t, "another sink", f, atSink(other))
					}
				}
				if h := impl.FloStep(f, impl.EvEvent{Kind: impl.EvCommit, At: at, In: math.MinInt}); !sameFlow(h, want) {
					t.Fatalf("In is something to a sink: %+v", h)
				}
			}
		}
	}
}

func TestCommitAsLongAsThereIsRoom(t *testing.T) {
	j := plainSized(1, 2)
	for _, c := range []struct {
		name         string
		panes, lates int
		ready        [][2]int
		written      int
	}{
		{"just as many panes", 1400, 0, [][2]int{{60, 0}, {40, 0}}, 2},
		{"one pane more", 1400, 0, [][2]int{{60, 0}, {41, 0}}, 1},
		{"one pane more, then one that has room", 1400, 0, [][2]int{{60, 0}, {41, 0}, {0, 0}, {1, 0}}, 1},
		{"just as many pairs", 0, 1400, [][2]int{{0, 60}, {0, 40}}, 2},
		{"one pair more", 0, 1400, [][2]int{{0, 60}, {0, 41}}, 1},
		{"one pair more, then one that has room", 0, 1400, [][2]int{{0, 60}, {0, 41}, {0, 1}}, 1},
		{"just as many of both", 1, 2, [][2]int{{1499, 1498}, {0, 0}, {0, 0}}, 3},
		{"panes have room, pairs have none", 0, 1500, [][2]int{{7, 0}, {7, 1}, {7, 0}}, 1},
		{"pairs have room, panes have none", 1500, 0, [][2]int{{0, 7}, {1, 7}, {0, 7}}, 1},
		{"no room from the first one on", 1500, 1500, [][2]int{{1, 0}, {0, 0}}, 0},
		{"no room needed", 1500, 1500, [][2]int{{0, 0}, {0, 0}}, 2},
		{"all at once", 0, 0, [][2]int{{1500, 1500}}, 1},
		{"all at once, and one", 0, 0, [][2]int{{1500, 1500}, {0, 1}}, 1},
		{"both together more than may be of each", 1000, 1000, [][2]int{{500, 500}}, 1},
	} {
		for at := range 2 {
			f := walledAt(ofLog(j, rec(7, 1, 4)), 0, false)
			f.Ckp.N, f.Ckp.Safe.N = 20, 20
			f.Sinks[at] = impl.FloSink{N: 3, Panes: paneTimes(c.panes), Lates: lateTimes(c.lates)}
			for i, n := range c.ready {
				f.Sinks[at].Ready = append(f.Sinks[at].Ready, txn(4+i, paneTimes(n[0]), lateTimes(n[1])))
			}
			g := checkHappens(t, f, atSink(at))
			s := g.Sinks[at]
			if s.N != 3+c.written || len(s.Ready) != len(c.ready)-c.written || !impl.FloOk(g) {
				t.Errorf("%s: up to %d, %d are left", c.name, s.N, len(s.Ready))
			}
			if !sameFlow(butSink(f, at), butSink(g, at)) {
				t.Errorf("%s: something else has turned", c.name)
			}
			checkStays(t, c.name, g, atSink(at))
		}
	}
}

// checkP22 holds a crash against the promise's words.
func checkP22(t *testing.T, f impl.FloFlow) impl.FloFlow {
	t.Helper()
	g := checkHappens(t, f, toCrash)
	for at, s := range g.Srcs {
		if s != (impl.FloSrc{At: f.Ckp.Safe.At[at], Wall: f.Ckp.N}) {
			t.Fatalf("source %d of %+v: %+v", at, f, s)
		}
	}
	for at, k := range g.Tasks {
		kept := f.Ckp.Safe.Snaps[at]
		fresh := impl.TskNew(f.Job, kept.Op, kept.Marks)
		fresh.Wall = f.Ckp.N
		if !sameTask(k, fresh) || impl.TskHeld(k) != 0 || len(k.Pend.Panes)+len(k.Pend.Lates) != 0 {
			t.Fatalf("task %d of %+v: %+v", at, f, k)
		}
		before, after := f.Sinks[at], g.Sinks[at]
		if after.N != before.N || !slices.Equal(after.Panes, before.Panes) || !slices.Equal(after.Lates, before.Lates) {
			t.Fatalf("what was written in sink %d of %+v: %+v", at, f, after)
		}
		left := slices.DeleteFunc(slices.Clone(before.Ready), func(x impl.TskTxn) bool { return x.N > f.Ckp.Safe.N })
		if !slices.EqualFunc(after.Ready, left, sameTxn) {
			t.Fatalf("what is ready in sink %d of %+v: %+v", at, f, after)
		}
	}
	if !sameCkp(g.Ckp, impl.CkpDrop(f.Job, f.Ckp)) || g.Job != f.Job || !sameLogs(g.Logs, f.Logs) || !impl.FloOk(g) {
		t.Fatalf("%+v: %+v", f, g)
	}
	checkStays(t, "a crash, twice", g, toCrash)
	return g
}

func TestP22OnTheWay(t *testing.T) {
	for _, j := range eachKind() {
		f := plainFlow(j)
		g := checkP22(t, f)
		if len(g.Sinks[0].Ready) != 2 || g.Sinks[0].Ready[1].N != 3 || len(g.Sinks[0].Panes) != 3 || g.Ckp.Open || g.Ckp.N != 5 {
			t.Errorf("%+v", g)
		}
		for safeN, count := range map[int]int{0: 0, 1: 0, 2: 1, 3: 2, 4: 2, 5: 3, 6: 3, 900: 3} {
			f := flowBy(f, func(f *impl.FloFlow) { f.Ckp = idle(900, f.Ckp.Safe); f.Ckp.Safe.N = safeN })
			if g := checkP22(t, f); len(g.Sinks[0].Ready) != count || g.Tasks[0].Wall != 900 {
				t.Errorf("safe is %d: %+v", safeN, g)
			}
		}
		e := impl.EvEvent{Kind: impl.EvCrash, At: math.MaxInt, In: math.MinInt}
		if h := impl.FloStep(f, e); !sameFlow(h, g) {
			t.Errorf("At or In is something to a crash: %+v", h)
		}
	}
}

func TestP22OfAny(t *testing.T) {
	r := fixed()
	for range 6000 {
		checkP22(t, anyFlow(r, anyJob(r)))
	}
}

// Behind a crash the next checkpoint is begun by walls of its own: what was sent ahead of it is on no way any more.
func TestP22TheNextCheckpoint(t *testing.T) {
	for _, j := range sizedJobs() {
		for at := range j.Tasks {
			f := checkAll(t, impl.FloNew(j, someLogs(j)), atSource(0), atSource(0), atTask(at, 0), toAsk)
			_, f = lastWall(t, f, at, 0)
			g := checkP22(t, f)
			if g.Srcs[0] != (impl.FloSrc{Wall: 1}) || g.Tasks[at].Wall != 1 || len(g.Sinks[at].Ready) != 0 {
				t.Fatalf("%+v", g)
			}
			g = checkAll(t, g, atSource(0))
			if g.Srcs[0] != (impl.FloSrc{At: 1, Wall: 1}) {
				t.Fatalf("a wall is sent, and none is under way: %+v", g)
			}
			before, after := lastWall(t, checkAll(t, g, toAsk), at, j.Sources-1)
			checkP11(t, before, after, at)
			if after.Ckp.N != 2 || after.Srcs[0].Wall != 2 || after.Ckp.Src[0] != 1 {
				t.Fatalf("%+v", after)
			}
		}
	}
}

// A crash behind a checkpoint that is safe goes back to that, and what was ready for it is written behind the crash.
func TestP22WhatIsSafeIsNotForgotten(t *testing.T) {
	for _, j := range sizedJobs() {
		f := impl.FloNew(j, someLogs(j))
		for range 8 {
			for src := range j.Sources {
				f = checkP18(t, f, src)
			}
			for at := range j.Tasks {
				for in := range j.Sources {
					f = checkP19(t, f, at, in)
				}
			}
		}
		f = checkAll(t, f, toAsk)
		for at := range j.Tasks {
			_, f = lastWall(t, f, at, 0)
		}
		f = checkAll(t, f, toSave)
		if f.Ckp.Safe.N != 1 || f.Ckp.Safe.At[0] == 0 {
			t.Fatalf("%+v", f)
		}
		behind := f
		for range 6 {
			for src := range j.Sources {
				behind = checkP18(t, behind, src)
			}
			for at := range j.Tasks {
				behind = checkP19(t, behind, at, 0)
			}
		}
		g, h := checkP22(t, behind), checkP22(t, f)
		if !sameFlow(g, h) || g.Srcs[0].At != f.Ckp.Safe.At[0] {
			t.Fatalf("%+v, not %+v", g, h)
		}
		for at := range j.Tasks {
			if !sameOperator(g.Tasks[at].Op, f.Ckp.Safe.Snaps[at].Op) || len(g.Sinks[at].Ready) != 1 {
				t.Fatalf("%+v", g)
			}
			x := g.Sinks[at].Ready[0]
			g = checkAll(t, g, atSink(at))
			if s := g.Sinks[at]; s.N != 1 || !slices.Equal(s.Panes, x.Panes) || !slices.Equal(s.Lates, x.Lates) || len(s.Ready) != 0 {
				t.Fatalf("%+v", g)
			}
		}
	}
}
