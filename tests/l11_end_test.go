package tests

import (
	"math/rand"
	"slices"
	"testing"

	"loop.example/freshet/impl"
)

// tally is what was met in flows on their way, so that no test passes as nothing came up.
type tally struct {
	made, given, crashes, lates, gones, rows, ends int
}

// count looks at one step.
func (c *tally) count(f impl.FloFlow, e impl.EvEvent) {
	switch {
	case isMade(f, e):
		c.made++
	case e.Kind == impl.EvDrop && f.Ckp.Open:
		c.given++
	case e.Kind == impl.EvCrash:
		c.crashes++
	}
}

// end looks at a flow at its end.
func (c *tally) end(f impl.FloFlow) {
	c.ends++
	c.lates += len(impl.FloLates(f))
	c.rows += len(impl.FloTable(f))
	for _, p := range impl.FloPanes(f) {
		if p.Kind == impl.PanGone {
			c.gones++
		}
	}
}

// noRecordsLog is a log without a record, of at most so many marks.
func noRecordsLog(r *rand.Rand, most int) []impl.ItmItem {
	return slices.DeleteFunc(aLog(r, most), func(x impl.ItmItem) bool { return x.Kind == impl.ItmRec })
}

// logsBy is a log for each source of a job, by a function for each.
func logsBy(j impl.JobJob, log func() []impl.ItmItem) [][]impl.ItmItem {
	var logs [][]impl.ItmItem
	for range j.Sources {
		logs = append(logs, log())
	}
	return logs
}

// logWay is a way to make logs for a job.
type logWay struct {
	name string
	logs func(j impl.JobJob) [][]impl.ItmItem
}

// logWays is ways to make logs of about so many items, punctual ones, and others.
func logWays(r *rand.Rand, most int) []logWay {
	by := func(name string, log func(j impl.JobJob) []impl.ItmItem) logWay {
		return logWay{name, func(j impl.JobJob) [][]impl.ItmItem {
			return logsBy(j, func() []impl.ItmItem { return log(j) })
		}}
	}
	return []logWay{
		by("punctual", func(j impl.JobJob) []impl.ItmItem { return inTime(r, most-1, 4, j.Late) }),
		by("just punctual, of few keys", func(j impl.JobJob) []impl.ItmItem { return crowded(r, most, j.Late) }),
		by("not punctual", func(impl.JobJob) []impl.ItmItem { return aLog(r, most) }),
		by("far behind the marks, of few keys", func(j impl.JobJob) []impl.ItmItem { return crowded(r, most, j.Late+8) }),
		by("without a record", func(impl.JobJob) []impl.ItmItem { return noRecordsLog(r, most) }),
	}
}

// crowded is a log of two keys whose records are about as far behind the last mark as may be.
func crowded(r *rand.Rand, most, late int) []impl.ItmItem {
	var log []impl.ItmItem
	last := 0
	for n := most/2 + r.Intn(most/2); len(log) < n; {
		if r.Intn(3) == 0 {
			last += 1 + r.Intn(4)
			log = append(log, mark(min(last, 60)))
			if last >= 60 {
				break
			}
		} else {
			log = append(log, rec(max(last-r.Intn(late+1), 0)+r.Intn(3), r.Intn(2), r.Intn(19)-9))
		}
	}
	return append(log, mark(1000))
}

// arePunctual says whether all logs are, with a job's Late.
func arePunctual(f impl.FloFlow) bool {
	return !slices.ContainsFunc(f.Logs, func(log []impl.ItmItem) bool { return !impl.LogPunctual(log, f.Job.Late) })
}

// onItsWay lets events happen from the beginning on, and holds each step against the words of promise 2: what was written is sound, and stays.
func onItsWay(t *testing.T, c *tally, f impl.FloFlow, events []impl.EvEvent) impl.FloFlow {
	t.Helper()
	for _, e := range events {
		g := impl.FloStep(f, e)
		c.count(f, e)
		checkNothingGoesBack(t, f, g, e)
		if panes := impl.FloPanes(g); !impl.PanSound(panes) || e.Kind == impl.EvCommit && !isSound(panes) {
			t.Fatalf("%+v of %+v: %v are not sound", e, f, panes)
		}
		f = g
	}
	return f
}

// checkEnd drains a flow, and holds it at its end against the words of promises 1, 2 and 5.
func checkEnd(t *testing.T, c *tally, f impl.FloFlow) impl.FloFlow {
	t.Helper()
	g := impl.FloDrain(f, 400)
	if h := impl.FloDrain(f, 300); !impl.FloDone(g) || !isAtEnd(g) || !impl.FloDone(h) || !sameFlow(g, h) {
		t.Fatalf("%+v does not come to its end: %+v", f, g)
	}
	for at, s := range g.Sinks {
		if !beginsWith(s.Panes, f.Sinks[at].Panes) || !beginsWith(s.Lates, f.Sinks[at].Lates) {
			t.Fatalf("%+v: what was written does not stay: %+v", f, g)
		}
	}
	if more := impl.FloDrain(g, 1); !slices.EqualFunc(more.Sinks, g.Sinks, sameSink) || !sameFlow(more, g) {
		t.Fatalf("%+v: one more round turns it: %+v", g, more)
	}
	panes, lates, recs, table := impl.FloPanes(g), impl.FloLates(g), impl.FloRecs(g), impl.FloTable(g)
	if !impl.PanSound(panes) || !isSound(panes) {
		t.Fatalf("%+v: %v are not sound", g, panes)
	}
	if got, want := impl.TabCount(table)+len(lates), len(impl.SpcPairs(g.Job, recs)); got != want || want != len(pairsOf(g.Job, recs)) {
		t.Fatalf("%+v: %d, not %d: %v %v", g, got, want, table, lates)
	}
	if arePunctual(g) && (len(lates) != 0 || !impl.TabSame(table, impl.SpcTable(g.Job, recs)) || !slices.Equal(table, allOf(g.Job, recs))) {
		t.Fatalf("%+v: %v and %v, not %v", g, table, lates, impl.SpcTable(g.Job, recs))
	}
	if impl.FloLeft(g) != 0 {
		t.Fatalf("%+v: %d are left", g, impl.FloLeft(g))
	}
	c.end(g)
	return g
}

// checkAnyOrder holds a flow, from the beginning on, against the words of promises 1, 2, 5 and 6: behind no event, behind a few, and behind many.
func checkAnyOrder(t *testing.T, c *tally, r *rand.Rand, j impl.JobJob, logs [][]impl.ItmItem) {
	t.Helper()
	first := impl.FloNew(j, logs)
	want := checkEnd(t, c, first)
	for _, n := range []int{1 + r.Intn(12), 50 + r.Intn(100), 300} {
		g := checkEnd(t, c, onItsWay(t, c, first, eventsOf(r, j, n)))
		if arePunctual(first) && !impl.TabSame(impl.FloTable(g), impl.FloTable(want)) {
			t.Fatalf("%+v: behind %d events %v, behind none %v", first, n, impl.FloTable(g), impl.FloTable(want))
		}
	}
}

func TestP1P2P5P6EachSizeAndKind(t *testing.T) {
	r := fixed()
	gones := map[bool]int{}
	for _, way := range logWays(r, 12) {
		var c tally
		isPunctual := true
		for _, kind := range sizedJobs() {
			for _, j := range bothPieces(kind) {
				j.Room, j.Late, j.Least = 1+r.Intn(4), r.Intn(12), -9+r.Intn(12)
				all := way.logs(j)
				isPunctual = isPunctual && arePunctual(impl.FloNew(j, all))
				checkAnyOrder(t, &c, r, j, all)
			}
		}
		hasRecords := way.name != "without a record"
		if c.made < 120 || c.given < 120 || c.crashes < 120 || c.ends != 192 || hasRecords != (c.rows > 500) || isPunctual == (c.lates > 20) {
			t.Errorf("%s: %+v", way.name, c)
		}
		gones[isPunctual] += c.gones
	}
	if gones[true] < 10 || gones[false] < 10 {
		t.Errorf("%v are gone", gones)
	}
}

func TestP1P2P5P6OfAnyJob(t *testing.T) {
	r := fixed()
	var c tally
	for n := range 60 {
		j := anyJob(r)
		if n%2 == 0 {
			j.Late = r.Intn(4)
		}
		for _, way := range logWays(r, 14) {
			checkAnyOrder(t, &c, r, j, way.logs(j))
		}
	}
	if c.lates < 20 || c.gones == 0 || c.rows < 1500 || c.made < 500 {
		t.Errorf("%+v", c)
	}
}

// The longest logs by the narrowest channels, and the shortest ones.
func TestP1P2P5P6TheLongestAndTheShortestLogs(t *testing.T) {
	r := fixed()
	var c tally
	records := func() []impl.ItmItem { return append(someRecs(r, 39, 60, 4), mark(1000)) }
	marks := func() []impl.ItmItem {
		var log []impl.ItmItem
		for m := 1; m <= 39; m++ {
			log = append(log, mark(m))
		}
		return append(log, mark(1000))
	}
	both := func() []impl.ItmItem {
		log := records()
		for at := 1; at < 39; at += 2 {
			log[at] = mark(at)
		}
		return log
	}
	theEnd := func() []impl.ItmItem { return times(1, mark(1000)) }
	for _, kind := range eachKind() {
		j := withTasks(kind, 3, 2)
		j.Room, j.Least = 1, -9
		for _, log := range []func() []impl.ItmItem{records, marks, both, theEnd} {
			checkAnyOrder(t, &c, r, j, logsBy(j, log))
		}
		checkAnyOrder(t, &c, r, j, [][]impl.ItmItem{theEnd(), records(), both()})
	}
}

// Rows of events that leave as much as may be undone: walls that wait, channels that are full, transactions that were never written.
func TestP1P2P5BehindRowsOfOneKind(t *testing.T) {
	r := fixed()
	var c tally
	for _, kind := range sizedJobs() {
		for _, j := range bothPieces(kind) {
			j.Room = 1 + r.Intn(2)
			logs := logsFor(r, j, 12)
			rows := map[string][]impl.EvEvent{
				"sources":             sourceEvents(j),
				"sources and tasks":   slices.Concat(sourceEvents(j), taskEvents(j)),
				"asked and given up":  {toAsk, atSource(0), toDrop},
				"walls that wait":     slices.Concat([]impl.EvEvent{toAsk}, sourceEvents(j), []impl.EvEvent{toDrop}),
				"never written":       slices.Concat(sourceEvents(j), taskEvents(j), []impl.EvEvent{toAsk, toSave}),
				"never saved":         slices.Concat(sourceEvents(j), taskEvents(j), []impl.EvEvent{toAsk}, sinkEvents(j)),
				"crash upon crash":    {atSource(0), atTask(0, 0), toAsk, toCrash},
				"given up once taken": slices.Concat([]impl.EvEvent{toAsk}, sourceEvents(j), taskEvents(j), sourceEvents(j), taskEvents(j), []impl.EvEvent{toDrop}),
			}
			for name, row := range rows {
				events := slices.Repeat(row, 300/len(row))
				f := onItsWay(t, &c, impl.FloNew(j, logs), events)
				checkEnd(t, &c, f)
				for at, k := range f.Tasks {
					if name == "never written" && len(f.Sinks[at].Panes) != 0 || name == "walls that wait" && len(k.Ins[0].Queue) != j.Room {
						t.Fatalf("%s: %+v", name, f)
					}
				}
			}
		}
	}
	if c.given < 1000 || c.crashes < 1000 || c.made < 500 {
		t.Errorf("%+v", c)
	}
}

// More events than promise 1 speaks of: still nothing is written twice, and nothing is lost.
func TestP2BehindManyMoreEvents(t *testing.T) {
	r := fixed()
	var c tally
	for range 12 {
		j := anyJob(r)
		checkEnd(t, &c, onItsWay(t, &c, impl.FloNew(j, logsFor(r, j, 40)), eventsOf(r, j, 1200)))
	}
}

// Each short row of a few events, and then to the end.
func TestP1P2P6EveryShortRow(t *testing.T) {
	var c tally
	j := plainJob(impl.WinSess, 5, 0)
	j.Sources, j.Tasks, j.Room, j.Least, j.Late = 2, 1, 1, -9, 4
	logs := [][]impl.ItmItem{{rec(1, 0, 4), mark(7), rec(5, 0, 3), mark(1000)}, {rec(9, 0, 2), mark(8), mark(1000)}}
	want := impl.FloTable(impl.FloDrain(impl.FloNew(j, logs), 400))
	few := []impl.EvEvent{atSource(0), atSource(1), atTask(0, 0), atTask(0, 1), toAsk, toDrop, toCrash}
	for _, events := range lists(4, few...) {
		g := checkEnd(t, &c, impl.FloRun(impl.FloNew(j, logs), events))
		if !impl.TabSame(impl.FloTable(g), want) || !slices.Equal(want, []impl.TabRow{row(0, 1, 14, agg(3, 9, 2, 4))}) {
			t.Fatalf("%+v: %v", events, impl.FloTable(g))
		}
	}
}

// ofTask is what a task is to know of a log: its marks, and the records of its keys that are not below Least.
func ofTask(j impl.JobJob, log []impl.ItmItem, at int) []impl.ItmItem {
	return slices.DeleteFunc(slices.Clone(log), func(x impl.ItmItem) bool {
		return x.Kind == impl.ItmRec && (x.V < j.Least || impl.JobTask(j, x.Key) != at)
	})
}

// checkAsIfNothingHappened holds each sink of a flow of one source against what an operator tells of the log.
func checkAsIfNothingHappened(t *testing.T, f impl.FloFlow) impl.FloFlow {
	t.Helper()
	g := impl.FloDrain(f, 400)
	for at, s := range g.Sinks {
		o := tellAll(t, g.Job, ofTask(g.Job, g.Logs[0], at))
		if !impl.FloDone(g) || !slices.Equal(s.Panes, o.panes) || !slices.Equal(s.Lates, o.lates) {
			t.Fatalf("sink %d of %+v: %v %v, not %v %v", at, g, s.Panes, s.Lates, o.panes, o.lates)
		}
	}
	return g
}

func TestP3OneSource(t *testing.T) {
	r := fixed()
	for _, way := range logWays(r, 24) {
		var c tally
		isPunctual := true
		for _, kind := range slices.Repeat(eachKind(), 4) {
			for _, piece := range bothPieces(kind) {
				for tasks := 1; tasks <= 2; tasks++ {
					j := withTasks(piece, 1, tasks)
					j.Room, j.Late, j.Least = 1+r.Intn(4), r.Intn(12), -9+r.Intn(12)
					first := impl.FloNew(j, way.logs(j))
					isPunctual = isPunctual && arePunctual(first)
					checkAsIfNothingHappened(t, first)
					for _, n := range []int{1 + r.Intn(20), 60, 300} {
						f := onItsWay(t, &c, first, eventsOf(r, j, n))
						c.end(checkAsIfNothingHappened(t, f))
					}
				}
			}
		}
		if c.made < 250 || c.given < 150 || c.crashes < 150 || c.ends != 192 || isPunctual == (c.lates > 100) {
			t.Errorf("%s: %+v", way.name, c)
		}
	}
}

// A log by hand: what is told in time, late, gone and too late, with a crash at each place.
func TestP3ACrashAtEachPlace(t *testing.T) {
	for _, kind := range eachKind() {
		for _, j := range bothPieces(withTasks(kind, 1, 2)) {
			j.Late, j.Least, j.Room = 3, 0, 2
			log := []impl.ItmItem{rec(1, 0, 4), rec(2, 1, 3), rec(9, 0, -1), mark(7), rec(5, 0, 3), rec(4, 1, 0), mark(11), rec(1, 0, 9), rec(6, 3, 1), mark(14), rec(8, 2, 2), mark(1000)}
			round := drainRound(j)
			for at := range 56 {
				for _, bad := range [][]impl.EvEvent{{toCrash}, {toDrop}, {toDrop, toAsk, toCrash}, {toCrash, atSink(0), toAsk, toDrop}} {
					events := append(slices.Repeat(round, 16)[:at*2], bad...)
					checkAsIfNothingHappened(t, impl.FloRun(impl.FloNew(j, [][]impl.ItmItem{log}), events))
				}
			}
		}
	}
}

func TestP9LogsAtOtherSources(t *testing.T) {
	r := fixed()
	rows := 0
	for _, kind := range sizedJobs() {
		for _, j := range bothPieces(kind) {
			j.Room, j.Late, j.Least = 1+r.Intn(4), r.Intn(6), -9+r.Intn(12)
			logs := pick(r, logWays(r, 14)[:2]).logs(j)
			if j.Sources > 2 {
				logs[0] = noRecordsLog(r, 8)
			}
			want := impl.FloTable(impl.FloDrain(impl.FloNew(j, logs), 400))
			rows += len(want)
			for _, other := range orders(logs) {
				for _, n := range []int{0, 60} {
					f := impl.FloDrain(impl.FloRun(impl.FloNew(j, other), eventsOf(r, j, n)), 400)
					if got := impl.FloTable(f); !impl.FloDone(f) || !impl.TabSame(got, want) {
						t.Fatalf("%+v, %v: %v, not %v", j, other, got, want)
					}
				}
			}
		}
	}
	if rows < 300 {
		t.Fatalf("%d rows", rows)
	}
}

// belowLeast says how many records below Least are on their way or among those that came too late, and how many of Least and above it.
func belowLeast(f impl.FloFlow) (below, of, above int) {
	var recs []impl.ItmItem
	for _, k := range f.Tasks {
		for _, c := range k.Ins {
			recs = append(recs, c.Queue...)
		}
	}
	recs = append(recs, impl.LatRecs(impl.FloLates(f))...)
	for _, x := range recs {
		switch {
		case x.Kind != impl.ItmRec:
		case x.V < f.Job.Least:
			below++
		case x.V == f.Job.Least:
			of++
		default:
			above++
		}
	}
	return below, of, above
}

func TestP15NoRecordBelowLeast(t *testing.T) {
	r := fixed()
	for _, least := range []int{-9, -3, 0, 1, 8, 9} {
		of, above := 0, 0
		for _, j := range sizedJobs() {
			j.Least, j.Late, j.Room = least, r.Intn(3), 1+r.Intn(4)
			logs := logsBy(j, func() []impl.ItmItem { return crowded(r, 30, 12) })
			for _, log := range logs {
				for at, x := range log {
					if x.Kind == impl.ItmRec {
						log[at].V = max(min(least-1+r.Intn(3), 9), -9)
					}
				}
			}
			look := func(f impl.FloFlow) {
				below, isOf, isAbove := belowLeast(f)
				if of, above = of+isOf, above+isAbove; below > 0 {
					t.Fatalf("%d below %d: %+v", below, least, f)
				}
			}
			f := rowOfEvents(r, j, logs, 200, func(f impl.FloFlow, e impl.EvEvent) impl.FloFlow {
				f = impl.FloStep(f, e)
				look(f)
				return f
			})
			look(impl.FloDrain(f, 400))
		}
		if of < 300 || least < 9 && above < 300 {
			t.Errorf("Least %d: %d of it, %d above it", least, of, above)
		}
	}
}

// Records one below Least, of it and one above it, each of which comes too late, or would.
func TestP15TooLateByHand(t *testing.T) {
	for _, kind := range eachKind() {
		for tasks := 1; tasks <= 2; tasks++ {
			for least := -9; least <= 8; least++ {
				j := withTasks(withLate(kind, 0, false), 1, tasks)
				j.Least = least
				log := []impl.ItmItem{mark(60), rec(5, 0, least), rec(6, 1, max(least-1, -9)), rec(7, 2, least+1), mark(1000)}
				want := []impl.ItmItem{rec(5, 0, least), rec(7, 2, least+1)}
				if least == -9 {
					want = []impl.ItmItem{rec(5, 0, -9), rec(6, 1, -9), rec(7, 2, -8)}
				}
				f := impl.FloDrain(impl.FloNew(j, [][]impl.ItmItem{log}), 400)
				var got []impl.ItmItem
				for _, l := range impl.FloLates(f) {
					if !slices.Contains(got, l.Rec) {
						got = append(got, l.Rec)
					}
				}
				slices.SortFunc(got, func(a, b impl.ItmItem) int { return a.T - b.T })
				if !slices.Equal(got, want) || !slices.Equal(impl.FloRecs(f), want) {
					t.Fatalf("%+v: %v came too late, not %v", j, got, want)
				}
			}
		}
	}
}

func TestP16WithoutAsking(t *testing.T) {
	r := fixed()
	turned, pend := 0, 0
	for _, j := range sizedJobs() {
		for range 3 {
			j.Room = 1 + r.Intn(4)
			first := impl.FloNew(j, logsFor(r, j, 30))
			f := first
			for range 150 {
				e := anyEvent(r, j)
				if e.Kind == impl.EvAsk || e.Kind == impl.EvCrash {
					e = atTask(r.Intn(j.Tasks), r.Intn(j.Sources))
				}
				f = impl.FloStep(f, e)
				if len(impl.FloPanes(f))+len(impl.FloLates(f)) != 0 || !slices.EqualFunc(f.Sinks, first.Sinks, sameSink) {
					t.Fatalf("%+v: something is written: %+v", e, f)
				}
				if g := impl.FloStep(f, toCrash); !sameFlow(g, first) {
					t.Fatalf("%+v: behind a crash %+v, not %+v", f, g, first)
				}
				if !sameFlow(f, first) {
					turned++
				}
				for _, k := range f.Tasks {
					pend += len(k.Pend.Panes) + len(k.Pend.Lates)
				}
			}
		}
	}
	if turned < 5000 || pend < 5000 {
		t.Fatalf("%d turned, %d told", turned, pend)
	}
}

// Each kind of event but EvAsk turns nothing but what a crash forgets, even once all was sent and taken.
func TestP16EachKindButAsking(t *testing.T) {
	for _, j := range sizedJobs() {
		first := impl.FloNew(j, someLogs(j))
		f := impl.FloRun(first, slices.Repeat(slices.Concat(sourceEvents(j), taskEvents(j)), 25))
		if impl.FloLeft(f) != 0 || f.Tasks[0].Op.Mark != 1000 {
			t.Fatalf("%+v: not all was sent and taken", f)
		}
		for _, e := range allEvents(j) {
			if e.Kind == impl.EvAsk {
				continue
			}
			g := impl.FloStep(f, e)
			if !slices.EqualFunc(g.Sinks, first.Sinks, sameSink) || !sameFlow(impl.FloStep(g, toCrash), first) {
				t.Fatalf("%+v: %+v", e, g)
			}
		}
		if g := impl.FloStep(impl.FloStep(f, toAsk), toCrash); sameFlow(g, first) || g.Ckp.N != 1 {
			t.Fatalf("a number that was asked for is forgotten: %+v", g)
		}
	}
}

func TestP17NothingSentAndWritten(t *testing.T) {
	r := fixed()
	for _, j := range append(sizedJobs(), windowJobs()...) {
		logs := logsFor(r, j, 40)
		f := impl.FloNew(j, logs)
		all := 0
		for _, log := range logs {
			all += len(log)
		}
		if !impl.FloOk(f) || impl.FloLeft(f) != all || len(impl.FloPanes(f))+len(impl.FloLates(f))+len(impl.FloTable(f)) != 0 || impl.FloDone(f) {
			t.Fatalf("%+v: %+v", j, f)
		}
		for at, k := range f.Tasks {
			for _, c := range k.Ins {
				if len(c.Queue) != 0 || c.Mark != 0 || c.Held {
					t.Fatalf("%+v: %+v", j, f)
				}
			}
			if !sameSink(f.Sinks[at], impl.FloSink{}) || len(k.Op.Rows) != 0 || k.Op.Mark != 0 || k.Wall != 0 {
				t.Fatalf("%+v: %+v", j, f)
			}
		}
		for _, s := range f.Srcs {
			if s != (impl.FloSrc{}) {
				t.Fatalf("%+v: %+v", j, f)
			}
		}
	}
}

// checkNone asks whether a job and logs have no flow, and whatever is asked of that has its one answer.
func checkNone(t *testing.T, name string, j impl.JobJob, logs [][]impl.ItmItem) {
	t.Helper()
	f := impl.FloNew(j, logs)
	if !isNoFlow(f) || impl.FloOk(f) || impl.FloDone(f) || impl.FloLeft(f) != 0 || len(impl.FloRecs(f)) != 0 {
		t.Fatalf("%s, %+v: %+v", name, j, f)
	}
	if !isNoFlow(impl.FloRun(f, nil)) || !isNoFlow(impl.FloDrain(f, 400)) || !isNoFlow(impl.FloStep(f, toAsk)) {
		t.Fatalf("%s, %+v: something comes of it", name, j)
	}
}

func TestP17OfOthersThereIsNone(t *testing.T) {
	for _, j := range brokenJobs() {
		for n := range 5 {
			checkNone(t, "a job that is not ok", j, slices.Repeat([][]impl.ItmItem{times(1, mark(1000))}, n))
		}
	}
	for _, j := range sizedJobs() {
		for n := range 6 {
			if n != j.Sources {
				checkNone(t, "too few or too many logs", j, slices.Repeat([][]impl.ItmItem{{rec(1, 1, 1), mark(1000)}}, n))
			}
		}
		for why, log := range noLogs() {
			for at := range j.Sources {
				logs := someLogs(j)
				logs[at] = log
				checkNone(t, why, j, logs)
			}
		}
	}
}

// checkP21 holds EvCommit against the promise's words.
func checkP21(t *testing.T, f impl.FloFlow, at int) int {
	t.Helper()
	g := checkHappens(t, f, atSink(at))
	if !sameFlow(butSink(f, at), butSink(g, at)) {
		t.Fatalf("sink %d of %+v: something else turns: %+v", at, f, g)
	}
	before, after := f.Sinks[at], g.Sinks[at]
	count := len(before.Ready) - len(after.Ready)
	panes, lates, n := before.Panes, before.Lates, before.N
	for _, x := range before.Ready[:count] {
		if panes, lates, n = slices.Concat(panes, x.Panes), slices.Concat(lates, x.Lates), x.N; x.N > f.Ckp.Safe.N {
			t.Fatalf("sink %d of %+v: %d is written", at, f, x.N)
		}
	}
	if !slices.Equal(after.Panes, panes) || !slices.Equal(after.Lates, lates) || after.N != n || !slices.EqualFunc(after.Ready, before.Ready[count:], sameTxn) {
		t.Fatalf("sink %d of %+v: %+v", at, f, after)
	}
	if len(after.Ready) > 0 {
		x := after.Ready[0]
		if x.N <= f.Ckp.Safe.N && len(panes)+len(x.Panes) <= 1500 && len(lates)+len(x.Lates) <= 1500 {
			t.Fatalf("sink %d of %+v: %d is not written", at, f, x.N)
		}
	}
	checkStays(t, "once more", g, atSink(at))
	if again := impl.FloRun(f, []impl.EvEvent{atSink(at), atSink(at), atSink(at)}); !sameFlow(again, g) {
		t.Fatalf("sink %d of %+v, three times: %+v", at, f, again)
	}
	return count
}

func TestP21OnTheWay(t *testing.T) {
	r := fixed()
	written := 0
	for n := range 80 {
		j := anyJob(r)
		if n < len(sizedJobs()) {
			j = sizedJobs()[n]
		}
		rowOfEvents(r, j, logsFor(r, j, 30), 200, func(f impl.FloFlow, e impl.EvEvent) impl.FloFlow {
			for at, s := range f.Sinks {
				if len(s.Ready) > 0 || e.Kind == impl.EvCommit {
					written += checkP21(t, f, at)
				}
			}
			return impl.FloStep(f, e)
		})
	}
	if written < 200 {
		t.Fatalf("%d were written", written)
	}
}

func TestP21OfAny(t *testing.T) {
	r := fixed()
	counts := map[int]int{}
	for range 3000 {
		f := anyFlow(r, anyJob(r))
		counts[checkP21(t, f, r.Intn(f.Job.Tasks))]++
	}
	for n := range 4 {
		if counts[n] < 50 {
			t.Errorf("%d were written at once %d times", n, counts[n])
		}
	}
}

func TestP21AsLongAsThereIsRoom(t *testing.T) {
	j := plainSized(2, 2)
	for _, c := range []struct {
		panes, lates int
		ready        [][2]int
		written      int
	}{
		{1499, 0, [][2]int{{1, 0}, {0, 1500}}, 2}, {1499, 0, [][2]int{{2, 0}, {1, 0}}, 0}, {0, 1499, [][2]int{{1500, 1}, {1, 0}}, 1},
		{0, 1499, [][2]int{{0, 2}, {0, 1}}, 0}, {1500, 1500, [][2]int{{0, 0}, {0, 0}, {0, 1}, {0, 0}}, 2}, {0, 0, [][2]int{{1500, 1500}, {1, 1}}, 1},
	} {
		for at := range 2 {
			var ready []impl.TskTxn
			for i, n := range c.ready {
				ready = append(ready, txn(4+i, paneTimes(n[0]), lateTimes(n[1])))
			}
			f := flowBy(withReady(plainFlow(j), at, 3, ready...), func(f *impl.FloFlow) {
				f.Ckp = idle(20, f.Ckp.Safe)
				f.Ckp.Safe.N, f.Sinks[at].Panes, f.Sinks[at].Lates = 20, paneTimes(c.panes), lateTimes(c.lates)
			})
			if got := checkP21(t, f, at); got != c.written || !impl.FloOk(f) {
				t.Errorf("%+v: %d written", c, got)
			}
		}
	}
}

// The example at the document's end, event by event.
func TestTheDocumentsFlow(t *testing.T) {
	j := impl.JobJob{Sources: 2, Tasks: 1, Kind: impl.WinSess, Size: 5, Late: 4, Tell: impl.AggSum, Least: -9, Room: 3}
	logs := [][]impl.ItmItem{{rec(1, 0, 4), mark(7), rec(5, 0, 3), mark(1000)}, {rec(9, 0, 2), mark(8), mark(1000)}}
	f := checkRun(t, impl.FloNew(j, logs), []impl.EvEvent{
		atSource(0), atSource(0), atSource(1), atSource(1), atTask(0, 0), atTask(0, 1), atTask(0, 0), atTask(0, 1), toAsk, atSource(0), atSource(1),
		atTask(0, 0), atSource(0), atTask(0, 1), toSave, toCrash, atSink(0), atSource(0), atTask(0, 0), toCrash,
	})
	if got := impl.FloPanes(f); len(got) != 1 || got[0] != timely(0, 1, 6, one(4)) || impl.FloLeft(f) != 3 || impl.FloDone(f) {
		t.Fatalf("%+v", f)
	}
	f = checkDrain(t, f, 400)
	var lines []string
	for _, p := range impl.FloPanes(f) {
		lines = append(lines, impl.PanText(p, j.Tell))
	}
	want := []string{"key 0 window 1..6 pane 0 timely 4", "key 0 window 1..6 pane 1 gone", "key 0 window 1..14 pane 0 timely 9"}
	if !slices.Equal(lines, want) || f.Sinks[0].N != 3 || len(impl.FloLates(f)) != 0 || !impl.FloDone(f) || impl.FloLeft(f) != 0 {
		t.Fatalf("%v, up to %d", lines, f.Sinks[0].N)
	}
	if got := impl.FloTable(f); !slices.Equal(got, []impl.TabRow{row(0, 1, 14, agg(3, 9, 2, 4))}) {
		t.Fatalf("%v", got)
	}
}
