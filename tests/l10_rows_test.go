package tests

import (
	"math/rand"
	"runtime"
	"slices"
	"sync"
	"testing"

	"loop.example/freshet/impl"
)

// rowOfEvents lets so many events happen from the beginning on, and looks at the flow ahead of and behind each.
func rowOfEvents(r *rand.Rand, j impl.JobJob, logs [][]impl.ItmItem, n int, step func(f impl.FloFlow, e impl.EvEvent) impl.FloFlow) impl.FloFlow {
	f := impl.FloNew(j, logs)
	for range n {
		f = step(f, anyEvent(r, j))
	}
	return f
}

// isMade says whether an event makes a checkpoint safe.
func isMade(f impl.FloFlow, e impl.EvEvent) bool {
	return e.Kind == impl.EvSave && impl.CkpReady(f.Job, f.Ckp)
}

// crashed is a flow behind a crash and the writing of all sinks.
func crashed(f impl.FloFlow) impl.FloFlow {
	f = impl.FloStep(f, toCrash)
	for at := range f.Job.Tasks {
		f = impl.FloStep(f, atSink(at))
	}
	return f
}

// checkP4 holds two flows behind a crash against each other: the same sinks, sources' At and operators.
func checkP4(t *testing.T, f, g impl.FloFlow, e impl.EvEvent) {
	t.Helper()
	sameAt := func(a, b impl.FloSrc) bool { return a.At == b.At }
	sameOp := func(a, b impl.TskTask) bool { return sameOperator(a.Op, b.Op) }
	if !impl.FloOk(f) || !slices.EqualFunc(f.Sinks, g.Sinks, sameSink) || !slices.EqualFunc(f.Srcs, g.Srcs, sameAt) || !slices.EqualFunc(f.Tasks, g.Tasks, sameOp) {
		t.Fatalf("%+v is not forgotten, or more than it: %+v, not %+v", e, g, f)
	}
}

func TestP4WhatACrashForgets(t *testing.T) {
	r := fixed()
	turned, safeOnes, readyOnes, held := 0, 0, 0, 0
	for _, j := range sizedJobs() {
		for range 4 {
			j.Room, j.Late, j.Piece = 1+r.Intn(4), r.Intn(6), r.Intn(2) == 0
			rowOfEvents(r, j, logsFor(r, j, 30), 150, func(f impl.FloFlow, e impl.EvEvent) impl.FloFlow {
				if r.Intn(12) > 0 {
					return impl.FloStep(f, e)
				}
				want := crashed(f)
				for _, e := range allEvents(j) {
					if isMade(f, e) {
						continue
					}
					g := impl.FloStep(f, e)
					checkP4(t, want, crashed(g), e)
					if !sameFlow(f, g) {
						turned++
					}
				}
				for at, s := range f.Sinks {
					readyOnes += len(s.Ready)
					held += impl.TskHeld(f.Tasks[at])
				}
				if f.Ckp.Safe.N > 0 {
					safeOnes++
				}
				return impl.FloStep(f, e)
			})
		}
	}
	if turned < 3000 || safeOnes < 200 || readyOnes < 150 || held < 60 {
		t.Fatalf("%d events have turned something; %d flows with something safe, %d ready, %d channels held", turned, safeOnes, readyOnes, held)
	}
}

// A row of events, none of which makes a checkpoint safe, is forgotten as each of them is.
func TestP4RowsOfEvents(t *testing.T) {
	r := fixed()
	for _, j := range sizedJobs() {
		for range 3 {
			f := rowOfEvents(r, j, logsFor(r, j, 30), 120, impl.FloStep)
			want := crashed(f)
			for range 60 {
				e := anyEvent(r, j)
				if isMade(f, e) {
					continue
				}
				f = impl.FloStep(f, e)
				checkP4(t, want, crashed(f), e)
			}
		}
	}
}

// But what makes a checkpoint safe is not forgotten: what is written behind the crash is more, and no source goes back ahead of it.
func TestP4WhatIsSafeStays(t *testing.T) {
	r := fixed()
	made, more := 0, 0
	for _, j := range sizedJobs() {
		for range 6 {
			rowOfEvents(r, j, logsFor(r, j, 30), 150, func(f impl.FloFlow, e impl.EvEvent) impl.FloFlow {
				g := impl.FloStep(f, e)
				if !isMade(f, e) {
					return g
				}
				made++
				before, after := crashed(f), crashed(g)
				for at, s := range after.Srcs {
					if s.At != f.Ckp.Src[at] || s.At < before.Srcs[at].At {
						t.Fatalf("source %d of %+v: %+v", at, f, s)
					}
				}
				for at, s := range after.Sinks {
					if !sameSnap(keptOf(after.Tasks[at]), f.Ckp.Snaps[at]) || s.N != f.Ckp.N || len(s.Ready) != 0 {
						t.Fatalf("task %d of %+v: %+v", at, f, after)
					}
					more += len(s.Panes) + len(s.Lates) - len(before.Sinks[at].Panes) - len(before.Sinks[at].Lates)
				}
				return g
			})
		}
	}
	if made < 100 || more < 200 {
		t.Fatalf("%d were made safe, %d was more", made, more)
	}
}

// beginsWith says whether a list is another one, and more.
func beginsWith[T comparable](list, first []T) bool {
	return len(list) >= len(first) && slices.Equal(list[:len(first)], first)
}

// checkNothingGoesBack holds one step against the words of promise 12.
func checkNothingGoesBack(t *testing.T, f, g impl.FloFlow, e impl.EvEvent) {
	t.Helper()
	if g.Ckp.N < f.Ckp.N || g.Ckp.Safe.N < f.Ckp.Safe.N {
		t.Fatalf("%+v: from %+v to %+v", e, f.Ckp, g.Ckp)
	}
	for at, n := range g.Ckp.Safe.At {
		if n < f.Ckp.Safe.At[at] {
			t.Fatalf("%+v: from %+v to %+v", e, f.Ckp, g.Ckp)
		}
	}
	for at, s := range g.Sinks {
		if s.N < f.Sinks[at].N || s.N > g.Ckp.Safe.N {
			t.Fatalf("%+v: from %+v to %+v", e, f, g)
		}
		if !beginsWith(s.Panes, f.Sinks[at].Panes) || !beginsWith(s.Lates, f.Sinks[at].Lates) {
			t.Fatalf("%+v: what was written does not stay: from %+v to %+v", e, f, g)
		}
	}
}

// checkBounds holds a flow against the words of promises 13 and 14.
func checkBounds(t *testing.T, f impl.FloFlow) {
	t.Helper()
	for at, s := range f.Srcs {
		if s.At < 0 || s.At > len(f.Logs[at]) {
			t.Fatalf("source %d of %+v", at, f)
		}
	}
	for at, k := range f.Tasks {
		for _, c := range k.Ins {
			if len(c.Queue) > f.Job.Room {
				t.Fatalf("task %d of %+v", at, f)
			}
		}
		checkKeys(t, f, at)
	}
}

// checkKeys asks whether all that a task has, and its sink, is of keys that go to it.
func checkKeys(t *testing.T, f impl.FloFlow, at int) {
	t.Helper()
	var keys []int
	for _, x := range append(slices.Clone(f.Sinks[at].Ready), f.Tasks[at].Pend, txn(0, f.Sinks[at].Panes, f.Sinks[at].Lates)) {
		for _, p := range x.Panes {
			keys = append(keys, p.Key)
		}
		for _, l := range x.Lates {
			keys = append(keys, l.Rec.Key)
		}
	}
	for _, c := range f.Tasks[at].Ins {
		for _, x := range c.Queue {
			if x.Kind == impl.ItmRec {
				keys = append(keys, x.Key)
			}
		}
	}
	for _, o := range f.Tasks[at].Op.Rows {
		keys = append(keys, o.Key)
	}
	for _, key := range keys {
		if key%f.Job.Tasks != at || impl.JobTask(f.Job, key) != at {
			t.Fatalf("key %d at task %d of %+v", key, at, f)
		}
	}
}

// Long rows of events, at each step: each step is as the document's words say, the flow stays ok, with its job and logs, nothing goes back, and all is within bounds.
func TestP10P12P13P14LongRowsOfEvents(t *testing.T) {
	r := fixed()
	made, given, crashes, told := 0, 0, 0, 0
	for n := range 70 {
		j := anyJob(r)
		if n < len(sizedJobs()) {
			j = sizedJobs()[n]
		}
		logs := logsFor(r, j, 40)
		f := rowOfEvents(r, j, logs, 500, func(f impl.FloFlow, e impl.EvEvent) impl.FloFlow {
			g := checkHappens(t, f, e)
			if !impl.FloOk(g) || g.Job != j || !sameLogs(g.Logs, logs) {
				t.Fatalf("%+v of %+v: %+v is not ok", e, f, g)
			}
			checkNothingGoesBack(t, f, g, e)
			checkBounds(t, g)
			for at := range j.Tasks {
				if g.Ckp.Tsk[at] && !f.Ckp.Tsk[at] {
					checkP11(t, f, g, at)
					told++
				}
			}
			switch {
			case isMade(f, e):
				made++
			case e.Kind == impl.EvDrop && f.Ckp.Open:
				given++
			case e.Kind == impl.EvCrash:
				crashes++
			}
			return g
		})
		if f.Ckp.N == 0 {
			t.Fatalf("nothing was asked: %+v", f)
		}
	}
	if made < 300 || given < 100 || crashes < 200 || told < 500 {
		t.Fatalf("%d made safe, %d given up, %d crashes, %d told", made, given, crashes, told)
	}
}

// Numbers come to their end: behind the last one nothing is under way any more, and all else goes on.
func TestP12TheLastNumber(t *testing.T) {
	for _, j := range sizedJobs() {
		f := impl.FloNew(j, someLogs(j))
		for n := range 903 {
			f = impl.FloStep(f, toAsk)
			if want := min(n+1, 900); f.Ckp.N != want || f.Ckp.Open != (n < 900) || !impl.FloOk(f) {
				t.Fatalf("%d: %+v", n, f.Ckp)
			}
			if n%3 == 0 {
				g := impl.FloStep(f, atSource(0))
				checkNothingGoesBack(t, f, g, atSource(0))
				f = impl.FloStep(g, toCrash)
			} else {
				f = impl.FloStep(f, toDrop)
			}
		}
		if g := checkP18(t, f, 0); g.Srcs[0].At != f.Srcs[0].At+1 {
			t.Fatalf("%+v", g)
		}
		checkStays(t, "behind the last number", f, toAsk)
	}
}

// Rows of checkpoints that are given up, asked for anew and made safe, with crashes between.
func TestP12CheckpointsAndCrashes(t *testing.T) {
	for _, j := range sizedJobs() {
		f := impl.FloNew(j, someLogs(j))
		turn := func(e impl.EvEvent) {
			g := checkHappens(t, f, e)
			checkNothingGoesBack(t, f, g, e)
			f = g
		}
		allWalls := func() {
			for at := range j.Tasks {
				before := f
				_, f = lastWall(t, f, at, 0)
				checkNothingGoesBack(t, before, f, atTask(at, 0))
			}
		}
		for n, way := range []string{"save", "drop", "crash", "save", "drop", "drop", "save", "crash", "crash", "save"} {
			turn(toAsk)
			if f.Ckp.N != n+1 || !f.Ckp.Open {
				t.Fatalf("%s: %+v", way, f.Ckp)
			}
			allWalls()
			switch way {
			case "save":
				turn(toSave)
				if f.Ckp.Safe.N != n+1 {
					t.Fatalf("%+v", f.Ckp)
				}
				turn(atSink(0))
				if f.Sinks[0].N != n+1 {
					t.Fatalf("%+v", f.Sinks[0])
				}
			case "drop":
				turn(toDrop)
				turn(atSink(0))
			case "crash":
				turn(toCrash)
				turn(atSink(0))
			}
			for at := range j.Sources {
				turn(atSource(at))
			}
		}
		if f.Ckp.N != 10 || f.Ckp.Safe.N != 10 {
			t.Fatalf("%+v", f.Ckp)
		}
	}
}

// carriedOn lets a flow go on, round by round, until all sources are at the end of their logs and all is written.
func carriedOn(f impl.FloFlow) impl.FloFlow {
	j := f.Job
	for range 400 {
		for at := range j.Sources {
			f = impl.FloStep(f, atSource(at))
		}
		for at := range j.Tasks {
			for in := range j.Sources {
				f = impl.FloStep(f, atTask(at, in))
			}
		}
		f = impl.FloStep(impl.FloStep(f, toAsk), toSave)
		for at := range j.Tasks {
			f = impl.FloStep(f, atSink(at))
		}
		isEnd := true
		for at, n := range f.Ckp.Safe.At {
			isEnd = isEnd && n == len(f.Logs[at])
		}
		for at, s := range f.Ckp.Safe.Snaps {
			isEnd = isEnd && s.Op.Mark == 1000 && len(f.Sinks[at].Ready) == 0
		}
		if isEnd {
			break
		}
	}
	return f
}

func TestP14TwoTasksAndEveryKey(t *testing.T) {
	r := fixed()
	for _, kind := range eachKind() {
		for sources := 1; sources <= 3; sources++ {
			for range 6 {
				j := withTasks(withLate(kind, r.Intn(3), false), sources, 2)
				logs := someLogs(j)
				for at := range logs {
					var all []impl.ItmItem
					for key := range 4 {
						all = append(all, rec(2+key, key, 9), rec(20-key, key, 8))
					}
					logs[at] = slices.Concat(all, []impl.ItmItem{mark(25)}, all, logs[at][len(logs[at])-1:])
				}
				f := rowOfEvents(r, j, logs, 60, impl.FloStep)
				checkBounds(t, f)
				f = carriedOn(f)
				checkBounds(t, f)
				for at, s := range f.Sinks {
					var keys []int
					for _, p := range s.Panes {
						keys = append(keys, p.Key)
					}
					if !slices.Contains(keys, at) || !slices.Contains(keys, at+2) || len(s.Lates) == 0 && j.Kind != impl.WinSess {
						t.Fatalf("sink %d has keys %v, and %d pairs", at, keys, len(s.Lates))
					}
				}
			}
		}
	}
}

// What was written in the end tells what is known of all records, whatever happened meanwhile.
func TestFlowsComeToWhatIsKnown(t *testing.T) {
	r := fixed()
	for range 120 {
		j := anyJob(r)
		var logs [][]impl.ItmItem
		var recs []impl.ItmItem
		for range j.Sources {
			logs = append(logs, inTime(r, 14, 4, j.Late))
			log := logs[len(logs)-1]
			recs = append(recs, impl.LogRecs(log, j.Least)...)
		}
		f := carriedOn(rowOfEvents(r, j, logs, r.Intn(200), impl.FloStep))
		var panes []impl.PanPane
		for at, s := range f.Sinks {
			panes = append(panes, s.Panes...)
			if len(s.Lates) != 0 || f.Ckp.Safe.Snaps[at].Op.Mark != 1000 {
				t.Fatalf("%+v: pairs, or not at its end", f)
			}
		}
		if !impl.PanSound(panes) || !impl.TabSame(impl.TabOf(panes, j.Piece), impl.SpcTable(j, recs)) {
			t.Fatalf("%+v: %v", f, panes)
		}
	}
}

// guardedFlow is a flow whose lists lie each ahead of others that nobody may touch.
type guardedFlow struct {
	flow  impl.FloFlow
	items []guarded[impl.ItmItem]
	panes []guarded[impl.PanPane]
	lates []guarded[impl.LatPair]
	srcs  guarded[impl.FloSrc]
	tasks []guardedTask
	ckp   *guardedCkp
	outer []func(t *testing.T, by string)
}

// laid is a list of lists ahead of one more, which nobody may put another one in the place of.
func laid[T any](g *guardedFlow, list []T, other T, same func(T, T) bool) []T {
	whole := append(slices.Clone(list), other, other)
	g.outer = append(g.outer, func(t *testing.T, by string) {
		t.Helper()
		if n := len(list); !same(whole[n], other) || !same(whole[n+1], other) {
			t.Fatalf("%s has written behind the end of a list", by)
		}
	})
	return whole[:len(list)]
}

func (g *guardedFlow) told(panes []impl.PanPane, lates []impl.LatPair) ([]impl.PanPane, []impl.LatPair) {
	p, l := guard(panes, gone(77, 77, 77, 77)), guard(lates, lat(rec(77, 77, 77), 77, 77))
	g.panes, g.lates = append(g.panes, p), append(g.lates, l)
	return p.given, l.given
}

func guardFlow(f impl.FloFlow, behind bool) *guardedFlow {
	g := &guardedFlow{flow: flowCopy(f), ckp: guardCkp(f.Ckp, behind), srcs: guard(f.Srcs, impl.FloSrc{At: 77, Wall: 77})}
	g.flow.Ckp, g.flow.Srcs = g.ckp.ckp, g.srcs.given
	for i, log := range f.Logs {
		items := guard(log, wall(77))
		g.items = append(g.items, items)
		g.flow.Logs[i] = items.given
	}
	for i, k := range f.Tasks {
		g.tasks = append(g.tasks, guardTask(k))
		g.flow.Tasks[i] = g.tasks[i].task
	}
	for i, s := range f.Sinks {
		var ready []impl.TskTxn
		for _, x := range s.Ready {
			panes, lates := g.told(x.Panes, x.Lates)
			ready = append(ready, txn(x.N, panes, lates))
		}
		panes, lates := g.told(s.Panes, s.Lates)
		g.flow.Sinks[i] = impl.FloSink{Ready: laid(g, ready, txn(77, nil, nil), sameTxn), N: s.N, Panes: panes, Lates: lates}
	}
	g.flow.Logs = laid(g, g.flow.Logs, times(1, wall(77)), slices.Equal)
	g.flow.Tasks = laid(g, g.flow.Tasks, task(77, in(77)), sameTask)
	g.flow.Sinks = laid(g, g.flow.Sinks, impl.FloSink{N: 77}, sameSink)
	return g
}

func (g *guardedFlow) check(t *testing.T, by string, was impl.FloFlow) {
	t.Helper()
	for _, x := range g.items {
		x.check(t, by)
	}
	for _, x := range g.panes {
		x.check(t, by)
	}
	for _, x := range g.lates {
		x.check(t, by)
	}
	g.srcs.check(t, by)
	for i, k := range g.tasks {
		k.check(t, by, was.Tasks[i])
	}
	g.ckp.check(t, by, was.Ckp)
	for _, isSame := range g.outer {
		isSame(t, by)
	}
	if !sameFlow(g.flow, was) {
		t.Fatalf("%s has turned its argument: %+v, was %+v", by, g.flow, was)
	}
}

// flowSpoilers writes over the lists of a flow, up to the ends of their room, one list at a time, inner ones first.
func flowSpoilers(f impl.FloFlow) []func() {
	var all []func()
	for _, log := range f.Logs {
		all = append(all, func() { fill(log, wall(66)) })
	}
	for _, k := range f.Tasks {
		for _, c := range k.Ins {
			all = append(all, func() { fill(c.Queue, rec(66, 66, 66)) })
		}
		all = append(all, func() { fill(k.Ins, in(66)) }, func() { fill(k.Op.Rows, told(66, 66, 66, 66, one(6))) })
		all = append(all, func() { fill(k.Pend.Panes, gone(66, 66, 66, 66)) }, func() { fill(k.Pend.Lates, lat(rec(66, 66, 66), 66, 66)) })
	}
	for _, s := range f.Sinks {
		for _, x := range append(slices.Clone(s.Ready), txn(0, s.Panes, s.Lates)) {
			all = append(all, func() { fill(x.Panes, gone(66, 66, 66, 66)) }, func() { fill(x.Lates, lat(rec(66, 66, 66), 66, 66)) })
		}
		all = append(all, func() { fill(s.Ready, txn(66, nil, nil)) })
	}
	all = append(all, spoilers(f.Ckp)...)
	return append(all, func() { fill(f.Logs, times(1, wall(66))) }, func() { fill(f.Srcs, impl.FloSrc{At: 66, Wall: 66}) },
		func() { fill(f.Tasks, task(66, in(66))) }, func() { fill(f.Sinks, impl.FloSink{N: 66}) })
}

func spoilFlow(f impl.FloFlow) {
	for _, spoil := range flowSpoilers(f) {
		spoil()
	}
}

// checkFlowApart writes over each list of an answer: no other one may turn.
func checkFlowApart(t *testing.T, by any, f impl.FloFlow) {
	t.Helper()
	want := flowCopy(f)
	same := flowSpoilers(want)
	for i, spoil := range flowSpoilers(f) {
		spoil()
		same[i]()
		if !sameFlow(f, want) {
			t.Fatalf("%+v: list %d shares memory with another one: %+v, not %+v", by, i, f, want)
		}
	}
}

func TestFlowsLeaveTheirArguments(t *testing.T) {
	r := fixed()
	for range 1500 {
		was := anyFlow(r, anyJob(r))
		if r.Intn(8) == 0 {
			was = brokenFlow(r, was)
		}
		g := guardFlow(was, r.Intn(2) == 0)
		for range 3 {
			e := anyEventOf(r, impl.JobJob{Sources: 3, Tasks: 2})
			spoilFlow(impl.FloStep(g.flow, e))
			g.check(t, "FloStep", was)
		}
		impl.FloOk(g.flow)
		spoilFlow(impl.FloNew(g.flow.Job, g.flow.Logs))
		g.check(t, "FloOk or FloNew", was)
	}
}

// An answer stays as it was, whatever is written into the argument, into another answer, and into any other list of it.
func TestFlowsAnswerInMemoryOfTheirOwn(t *testing.T) {
	r := fixed()
	told, made := 0, 0
	for range 4000 {
		was := anyFlow(r, anyJob(r))
		e := anyEventOf(r, was.Job)
		given := flowCopy(was)
		after, other, first := impl.FloStep(given, e), impl.FloStep(given, e), impl.FloNew(given.Job, given.Logs)
		spoilFlow(given)
		checkFlowApart(t, e, other)
		if want := happened(was, e); !sameFlow(after, want) {
			t.Fatalf("%+v of %+v has turned: %+v, not %+v", e, was, after, want)
		}
		if !slices.Equal(after.Ckp.Tsk, was.Ckp.Tsk) && e.Kind == impl.EvTask {
			told++
		}
		if isMade(was, e) {
			made++
		}
		if !sameFlow(first, impl.FloNew(was.Job, was.Logs)) {
			t.Fatalf("FloNew of %+v has turned: %+v", was, first)
		}
		checkFlowApart(t, "FloNew", first)
	}
	if told < 10 || made < 60 {
		t.Fatalf("%d have told, %d were made safe", told, made)
	}
}

// A task that tells, a crash and what is made safe keep rows and marks twice: each in memory of its own.
func TestFlowsKeepTwiceInMemoryOfTheirOwn(t *testing.T) {
	for _, j := range sizedJobs() {
		for at := range j.Tasks {
			f := atLastWall(j, at, 0, 20, 13, 2, 2)
			checkFlowApart(t, "a task that tells", impl.FloStep(f, atTask(at, 0)))
			joined := withReady(f, at, 3, txn(14, paneTimes(2), lateTimes(2)))
			checkFlowApart(t, "a task that tells, and takes in what is ready", impl.FloStep(joined, atTask(at, 0)))
			f.Ckp = allTell(f.Ckp)
			checkFlowApart(t, "made safe", impl.FloStep(f, toSave))
			checkFlowApart(t, "a crash", impl.FloStep(impl.FloStep(f, toSave), toCrash))
			written := withReady(f, at, 3, txn(12, paneTimes(2), lateTimes(2)), txn(13, paneTimes(1), nil), txn(14, nil, lateTimes(3)))
			checkFlowApart(t, "written", impl.FloStep(written, atSink(at)))
		}
	}
}

// Lists of an argument may be one and the same; those of an answer may not.
func TestFlowsOfListsThatAreOne(t *testing.T) {
	j := plainSized(2, 2)
	panes, lates, marks := paneTimes(2), lateTimes(2), []int{12, 12}
	rows := []impl.OpRow{told(1, 5, 10, 1, one(4)), untold(1, 10, 15, one(4))}
	queue := []impl.ItmItem{wall(5)}
	k := impl.TskTask{Ins: []impl.TskIn{in(12, queue...), {Mark: 12, Held: true, Queue: queue}}, Op: operator(12, rows...), Wall: 5, Pend: txn(0, panes, lates)}
	s := impl.FloSink{N: 1, Ready: []impl.TskTxn{txn(2, panes, lates), txn(3, panes, lates), txn(4, panes, lates)}, Panes: panes, Lates: lates}
	log := append(queue[:0:0], rec(1, 1, 1), mark(1000))
	snaps := []impl.CkpSnap{snap(operator(12, rows...), marks...), snap(operator(12, rows...), marks...)}
	f := impl.FloFlow{
		Job: j, Logs: [][]impl.ItmItem{log, log}, Srcs: []impl.FloSrc{{At: 1, Wall: 5}, {Wall: 4}}, Tasks: []impl.TskTask{k, k}, Sinks: []impl.FloSink{s, s},
		Ckp: impl.CkpState{N: 5, Open: true, Src: []int{2, 2}, Tsk: []bool{true, true}, Snaps: snaps, Safe: safe(3, []int{2, 2}, snaps...)},
	}
	was := flowCopy(f)
	if !impl.FloOk(f) {
		t.Fatalf("%+v is not ok", f)
	}
	for _, e := range allEvents(j) {
		checkFlowApart(t, e, checkHappens(t, f, e))
		if !sameFlow(f, was) {
			t.Fatalf("%+v has turned its argument: %+v", e, f)
		}
	}
	checkFlowApart(t, "FloNew", impl.FloNew(j, f.Logs))
}

// The empty list and the nil list are the same value.
func TestFlowsOfEmptyLists(t *testing.T) {
	for _, j := range sizedJobs() {
		f := impl.FloNew(j, someLogs(j))
		for at := range f.Tasks {
			k := &f.Tasks[at]
			for i := range k.Ins {
				k.Ins[i].Queue = []impl.ItmItem{}
			}
			k.Op.Rows, k.Pend = []impl.OpRow{}, txn(0, []impl.PanPane{}, []impl.LatPair{})
			f.Sinks[at] = impl.FloSink{Ready: []impl.TskTxn{}, Panes: []impl.PanPane{}, Lates: []impl.LatPair{}}
			f.Ckp.Snaps[at] = impl.CkpSnap{Op: impl.OpState{Rows: []impl.OpRow{}}, Marks: []int{}}
		}
		if !impl.FloOk(f) || !sameFlow(f, impl.FloNew(j, someLogs(j))) {
			t.Fatalf("%+v is not ok", f)
		}
		for _, e := range allEvents(j) {
			checkHappens(t, f, e)
		}
		none := impl.FloFlow{Job: j, Logs: [][]impl.ItmItem{}, Srcs: []impl.FloSrc{}, Tasks: []impl.TskTask{}, Sinks: []impl.FloSink{}}
		checkNoFlow(t, "empty lists", none)
		if f := impl.FloNew(j, [][]impl.ItmItem{}); !isNoFlow(f) {
			t.Fatalf("%+v", f)
		}
	}
}

func TestFlowsAnswerTheSameEachTime(t *testing.T) {
	r := fixed()
	for range 300 {
		f := anyFlow(r, anyJob(r))
		e := anyEventOf(r, f.Job)
		want := impl.FloStep(f, e)
		for range 20 {
			if got := impl.FloStep(f, e); !sameFlow(got, want) {
				t.Fatalf("%+v of %+v: %+v, then %+v", e, f, want, got)
			}
		}
	}
}

// Calls that are made at the same time, of the same argument, are nothing to each other.
func TestFlowsAnswerAtTheSameTime(t *testing.T) {
	r := fixed()
	for range 60 {
		f := anyFlow(r, anyJob(r))
		events := allEvents(f.Job)
		got := make([]impl.FloFlow, len(events))
		var all sync.WaitGroup
		for i, e := range events {
			all.Go(func() { got[i] = impl.FloStep(f, e) })
		}
		all.Wait()
		for i, e := range events {
			if want := happened(f, e); !sameFlow(got[i], want) {
				t.Fatalf("%+v of %+v: %+v, not %+v", e, f, got[i], want)
			}
		}
	}
}

// No goroutine is left behind by a step.
func TestFlowsLeaveNobodyAtWork(t *testing.T) {
	r := fixed()
	before := runtime.NumGoroutine()
	for range 40 {
		f := anyFlow(r, anyJob(r))
		for _, e := range allEvents(f.Job) {
			impl.FloStep(f, e)
			impl.FloStep(brokenFlow(r, f), e)
		}
	}
	// One that has said that it is done may yet have to go.
	for n := 0; n < 10000 && runtime.NumGoroutine() > before; n++ {
		runtime.Gosched()
	}
	if after := runtime.NumGoroutine(); after > before {
		t.Fatalf("%d goroutines ahead, %d behind", before, after)
	}
}

// anyNumbersFlow is a flow of any numbers.
func anyNumbersFlow(r *rand.Rand) impl.FloFlow {
	n := func() int { return pick(r, edges) }
	txns := func(r *rand.Rand) impl.TskTxn { return anyNumbersTask(r).Pend }
	f := impl.FloFlow{
		Job: anyNumbersJob(r), Logs: several(r, 4, func(r *rand.Rand) []impl.ItmItem { return anyItems(r, 5) }),
		Srcs:  several(r, 4, func(*rand.Rand) impl.FloSrc { return impl.FloSrc{At: n(), Wall: n()} }),
		Tasks: several(r, 3, anyNumbersTask), Ckp: anyNumbersCkp(r),
		Sinks: several(r, 3, func(r *rand.Rand) impl.FloSink {
			x := txns(r)
			return impl.FloSink{Ready: several(r, 3, txns), N: n(), Panes: x.Panes, Lates: x.Lates}
		}),
	}
	return f
}

// partOfFlow is a flow with one part of another one, by its place.
func partOfFlow(f, g impl.FloFlow, at int) impl.FloFlow {
	switch at {
	case 0:
		f.Job = g.Job
	case 1:
		f.Logs = g.Logs
	case 2:
		f.Srcs = g.Srcs
	case 3:
		f.Tasks = g.Tasks
	case 4:
		f.Sinks = g.Sinks
	case 5:
		f.Ckp = g.Ckp
	}
	return f
}

// okOrNot is a flow that is ok, one that nearly is, one with a part of another one, or one of any numbers.
func okOrNot(r *rand.Rand) impl.FloFlow {
	f := anyFlow(r, anyJob(r))
	switch r.Intn(4) {
	case 0:
		return brokenFlow(r, f)
	case 1:
		return anyNumbersFlow(r)
	case 2:
		return partOfFlow(f, pick(r, []impl.FloFlow{anyNumbersFlow(r), anyFlow(r, anyJob(r)), {}}), r.Intn(6))
	}
	return f
}

func TestFlowsAnswerAtEveryArgument(t *testing.T) {
	r := fixed()
	for range 12000 {
		f := okOrNot(r)
		e := impl.EvEvent{Kind: r.Intn(9), At: pick(r, edges), In: pick(r, edges)}
		if r.Intn(2) == 0 {
			e.At, e.In = r.Intn(4)-1, r.Intn(5)-1
		}
		if r.Intn(9) == 0 {
			e.Kind = pick(r, edges)
		}
		quiet(t, []any{f, e}, func() {
			checkHappens(t, f, e)
			if impl.FloOk(f) != isFlow(f) {
				t.Fatalf("%+v", f)
			}
			g := impl.FloNew(f.Job, f.Logs)
			fine := isJob(f.Job) && len(f.Logs) == f.Job.Sources && !slices.ContainsFunc(f.Logs, func(log []impl.ItmItem) bool { return !impl.LogOk(log) })
			if impl.FloOk(g) != fine || !fine && !isNoFlow(g) {
				t.Fatalf("FloNew of %+v, %v: %+v", f.Job, f.Logs, g)
			}
		})
	}
}

func TestFlowsAnswerAtTheSameNumberAllOver(t *testing.T) {
	for _, n := range edges {
		x := impl.ItmItem{Kind: n, T: n, Key: n, V: n, N: n}
		known := agg(n, n, n, n)
		p, l := impl.PanPane{Key: n, Win: win(n, n), No: n, Kind: n, Agg: known}, lat(x, n, n)
		s := snap(operator(n, impl.OpRow{Key: n, Win: win(n, n), All: known, Fresh: known, Told: n}), n, n)
		k := impl.TskTask{Ins: []impl.TskIn{in(n, x), held(n, x)}, Op: s.Op, Wall: n, Pend: txn(n, []impl.PanPane{p}, []impl.LatPair{l})}
		all := impl.FloFlow{
			Job: impl.JobJob{Sources: n, Tasks: n, Kind: n, Size: n, Step: n, Late: n, Tell: n, Least: n, Room: n}, Logs: [][]impl.ItmItem{{x}, {x}},
			Srcs: []impl.FloSrc{{At: n, Wall: n}, {At: n, Wall: n}}, Tasks: []impl.TskTask{k, k},
			Sinks: slices.Repeat([]impl.FloSink{{Ready: []impl.TskTxn{k.Pend}, N: n, Panes: k.Pend.Panes, Lates: k.Pend.Lates}}, 2),
			Ckp:   impl.CkpState{N: n, Open: true, Src: []int{n, n}, Tsk: []bool{true, true}, Snaps: []impl.CkpSnap{s, s}, Safe: safe(n, []int{n, n}, s, s)},
		}
		plain := plainFlow(plainSized(2, 2))
		parts := []impl.FloFlow{all, plain}
		for at := range 6 {
			parts = append(parts, partOfFlow(plain, all, at))
		}
		for _, f := range parts {
			for kind := range 9 {
				for _, at := range []int{n, 0, 1} {
					quiet(t, []any{f, kind, at}, func() {
						checkHappens(t, f, impl.EvEvent{Kind: kind, At: at, In: n})
						checkHappens(t, f, impl.EvEvent{Kind: kind, At: n, In: at})
						checkHappens(t, f, impl.EvEvent{Kind: n, At: at, In: at})
						impl.FloNew(f.Job, f.Logs)
					})
				}
			}
		}
	}
}
