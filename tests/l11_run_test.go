package tests

import (
	"math"
	"math/rand"
	"slices"
	"testing"

	"loop.example/freshet/impl"
)

func TestNumbersOfRuns(t *testing.T) {
	if impl.RunMaxEvents != 500 || impl.DrnMaxRounds != 400 {
		t.Error(impl.RunMaxEvents, impl.DrnMaxRounds)
	}
}

// ran says the same as FloRun, from the document's words.
func ran(f impl.FloFlow, events []impl.EvEvent) impl.FloFlow {
	if !isFlow(f) || len(events) > 500 {
		return impl.FloFlow{}
	}
	for _, e := range events {
		f = happened(f, e)
	}
	return f
}

// stepsOf is FloStep of one event behind the other.
func stepsOf(f impl.FloFlow, events []impl.EvEvent) impl.FloFlow {
	for _, e := range events {
		f = impl.FloStep(f, e)
	}
	return f
}

// checkRun holds FloRun against the document's words.
func checkRun(t *testing.T, f impl.FloFlow, events []impl.EvEvent) impl.FloFlow {
	t.Helper()
	got := impl.FloRun(f, events)
	if want := ran(f, events); !sameFlow(got, want) {
		t.Fatalf("%+v of %+v: %+v, not %+v", events, f, got, want)
	}
	return got
}

// eventsOf is so many events that are drawn.
func eventsOf(r *rand.Rand, j impl.JobJob, n int) []impl.EvEvent {
	events := make([]impl.EvEvent, n)
	for i := range events {
		events[i] = anyEvent(r, j)
	}
	return events
}

// flowsOnTheWay is a flow of each size and Kind at its beginning, behind some events, and one that none lead to.
func flowsOnTheWay(r *rand.Rand) []impl.FloFlow {
	var all []impl.FloFlow
	for _, j := range sizedJobs() {
		j.Room = 1 + r.Intn(4)
		f := impl.FloNew(j, someLogs(j))
		all = append(all, f, stepsOf(f, eventsOf(r, j, 30)), stepsOf(f, eventsOf(r, j, 90)), anyFlow(r, j))
	}
	return all
}

// flowsThatAreNotOk is flows with one thing turned, by what it is.
func flowsThatAreNotOk(j impl.JobJob) map[string]impl.FloFlow {
	all := map[string]impl.FloFlow{"nothing": {}}
	for name, turn := range map[string]func(*impl.FloFlow){
		"a job of nothing":             func(f *impl.FloFlow) { f.Job = impl.JobJob{} },
		"a job that is not ok":         func(f *impl.FloFlow) { f.Job.Late = 21 },
		"a job of fewer sources":       func(f *impl.FloFlow) { f.Job.Sources-- },
		"no logs":                      func(f *impl.FloFlow) { f.Logs = nil },
		"a log that is none":           func(f *impl.FloFlow) { f.Logs[0] = times(2, mark(1000)) },
		"a log more":                   func(f *impl.FloFlow) { f.Logs = append(f.Logs, f.Logs[0]) },
		"no sources":                   func(f *impl.FloFlow) { f.Srcs = nil },
		"a source beyond its log":      func(f *impl.FloFlow) { f.Srcs[0].At = 41 },
		"a source below 0":             func(f *impl.FloFlow) { f.Srcs[0].At = math.MinInt },
		"a source's wall above all":    func(f *impl.FloFlow) { f.Srcs[0].Wall = f.Ckp.N + 1 },
		"Safe.At beyond the log":       func(f *impl.FloFlow) { f.Ckp.Safe.At[0] = 40 },
		"no tasks":                     func(f *impl.FloFlow) { f.Tasks = nil },
		"a task of nothing":            func(f *impl.FloFlow) { f.Tasks[0] = impl.TskTask{} },
		"a task's wall above all":      func(f *impl.FloFlow) { f.Tasks[0].Wall = f.Ckp.N + 1 },
		"no sinks":                     func(f *impl.FloFlow) { f.Sinks = nil },
		"a sink's N above all":         func(f *impl.FloFlow) { f.Sinks[0].N = 901 },
		"a pane that is not ok":        func(f *impl.FloFlow) { f.Sinks[0].Panes = make([]impl.PanPane, 1) },
		"a pair that is not ok":        func(f *impl.FloFlow) { f.Sinks[0].Lates = make([]impl.LatPair, 1) },
		"too many panes":               func(f *impl.FloFlow) { f.Sinks[0].Panes = paneTimes(1501) },
		"numbers ready that go back":   func(f *impl.FloFlow) { f.Sinks[0].Ready = append(readyTimes(9, 1), readyTimes(8, 1)...) },
		"checkpoints of nothing":       func(f *impl.FloFlow) { f.Ckp = impl.CkpState{} },
		"checkpoints with a task less": func(f *impl.FloFlow) { f.Ckp.Tsk = f.Ckp.Tsk[1:] },
	} {
		all[name] = flowBy(plainFlow(j), turn)
	}
	return all
}

func TestP25NoEvents(t *testing.T) {
	r := fixed()
	for _, f := range flowsOnTheWay(r) {
		for _, none := range [][]impl.EvEvent{nil, {}, make([]impl.EvEvent, 0, 9)} {
			if g := checkRun(t, f, none); !sameFlow(g, f) || !impl.FloOk(g) {
				t.Fatalf("%+v: %+v", f, g)
			}
		}
	}
}

func TestP25OneEvent(t *testing.T) {
	r := fixed()
	for _, f := range flowsOnTheWay(r) {
		for _, e := range allEvents(f.Job) {
			if g := checkRun(t, f, []impl.EvEvent{e}); !sameFlow(g, impl.FloStep(f, e)) {
				t.Fatalf("%+v of %+v: %+v", e, f, g)
			}
		}
	}
}

func TestP25AsManyEventsAsMayBe(t *testing.T) {
	r := fixed()
	for _, j := range sizedJobs() {
		f := impl.FloNew(j, logsFor(r, j, 30))
		events := eventsOf(r, j, 501)
		for _, n := range []int{499, 500} {
			if g := checkRun(t, f, events[:n]); !impl.FloOk(g) || !sameFlow(g, stepsOf(f, events[:n])) {
				t.Fatalf("%d events of %+v: %+v", n, f, g)
			}
		}
		for _, more := range [][]impl.EvEvent{events, slices.Repeat(events, 9), make([]impl.EvEvent, 501), slices.Repeat([]impl.EvEvent{toSave}, 501)} {
			if g := checkRun(t, f, more); !isNoFlow(g) {
				t.Fatalf("%d events: %+v", len(more), g)
			}
		}
		if g := impl.FloRun(f, make([]impl.EvEvent, 500)); !sameFlow(g, f) {
			t.Fatalf("500 events that are none: %+v", g)
		}
	}
}

// checkCut holds a row of events against its two parts, one behind the other.
func checkCut(t *testing.T, f impl.FloFlow, events []impl.EvEvent, at int) {
	t.Helper()
	whole, first := impl.FloRun(f, events), impl.FloRun(f, events[:at])
	if both := impl.FloRun(first, events[at:]); !sameFlow(both, whole) {
		t.Fatalf("%+v of %+v, cut at %d: %+v, not %+v", events, f, at, both, whole)
	}
	if steps := stepsOf(first, events[at:]); !sameFlow(steps, whole) {
		t.Fatalf("%+v of %+v, steps from %d on: %+v, not %+v", events, f, at, steps, whole)
	}
	if run := impl.FloRun(stepsOf(f, events[:at]), events[at:]); !sameFlow(run, whole) {
		t.Fatalf("%+v of %+v, steps up to %d: %+v, not %+v", events, f, at, run, whole)
	}
}

func TestP25CutAtEachPlace(t *testing.T) {
	r := fixed()
	nones := 0
	for _, j := range sizedJobs() {
		j.Room = 1 + r.Intn(4)
		events := eventsOf(r, j, 40)
		for _, n := range []int{3, 17, 30} {
			events[n] = pick(r, []impl.EvEvent{{}, {Kind: 8}, {Kind: -1, At: 1}, atSource(3), atTask(2, 0), atTask(0, 3), atSink(-1), {Kind: math.MaxInt, At: math.MinInt}})
			nones++
		}
		f := impl.FloNew(j, logsFor(r, j, 20))
		checkRun(t, f, events)
		for at := range len(events) + 1 {
			checkCut(t, f, events, at)
		}
	}
	if nones == 0 {
		t.Fatal("no event that is none")
	}
}

func TestP25AsManyAsMayBeCut(t *testing.T) {
	r := fixed()
	for _, j := range sizedJobs() {
		f := impl.FloNew(j, logsFor(r, j, 30))
		events := eventsOf(r, j, 500)
		for _, at := range []int{0, 1, 250, 499, 500} {
			checkCut(t, f, events, at)
		}
	}
}

// Two rows that are together too many, each of which is not: one behind the other they happen, at once they do not.
func TestP25TwoRowsThatAreTogetherTooMany(t *testing.T) {
	r := fixed()
	j := plainSized(2, 2)
	f := impl.FloNew(j, logsFor(r, j, 30))
	first, second := eventsOf(r, j, 300), eventsOf(r, j, 201)
	if g := impl.FloRun(impl.FloRun(f, first), second); !impl.FloOk(g) || !sameFlow(g, stepsOf(stepsOf(f, first), second)) {
		t.Fatalf("%+v", g)
	}
	if g := impl.FloRun(f, append(first, second...)); !isNoFlow(g) {
		t.Fatalf("%+v", g)
	}
}

func TestP25AFlowThatIsNotOk(t *testing.T) {
	for _, j := range eachKind() {
		for name, f := range flowsThatAreNotOk(j) {
			for _, n := range []int{0, 1, 2, 500, 501} {
				events := slices.Repeat([]impl.EvEvent{atSource(0)}, n)
				if g := checkRun(t, f, events); !isNoFlow(g) {
					t.Fatalf("%s, %d events: %+v", name, n, g)
				}
			}
		}
	}
}

// strays is flows that are ok, but not any more behind an event, which no events lead to from the beginning on.
func strays() map[string]impl.FloFlow {
	j := plainSized(2, 2)
	plain := flowBy(impl.FloNew(j, someLogs(j)), func(f *impl.FloFlow) {
		f.Srcs[0].At, f.Srcs[1].At, f.Sinks[1].Panes = len(f.Logs[0]), 1, paneTimes(2)
	})
	return map[string]impl.FloFlow{
		"a wall on its way that was never asked for": flowBy(plain, func(f *impl.FloFlow) { f.Tasks[1].Ins[1].Queue = times(1, wall(7)) }),
		"a window of as many values as may be":       flowBy(plain, func(f *impl.FloFlow) { manyValues(&f.Tasks[1]) }),
		"a source that has told of more than its log": flowBy(plain, func(f *impl.FloFlow) {
			f.Ckp = allTell(impl.CkpAsk(j, f.Ckp))
			f.Ckp.Src[0], f.Srcs[0].Wall, f.Srcs[1].Wall = 40, 1, 1
		}),
	}
}

// manyValues lets a task know of as many values of a window as may be, and one more be on its way.
func manyValues(k *impl.TskTask) {
	k.Op.Rows = []impl.OpRow{untold(1, 5, 10, agg(1000, 1000, 1, 1))}
	k.Ins[1].Queue = times(1, rec(7, 1, 1))
}

func TestRunsOfAFlowThatIsNotOkAnyMoreOnTheWay(t *testing.T) {
	for name, f := range strays() {
		bad := atTask(1, 1)
		if f.Ckp.Open {
			bad = toSave
		}
		g := checkRun(t, f, []impl.EvEvent{atSource(1), bad})
		if !impl.FloOk(f) || impl.FloOk(g) || isNoFlow(g) || len(g.Sinks[1].Panes) != 2 {
			t.Fatalf("%s: %+v, then %+v", name, f, g)
		}
		for _, e := range allEvents(f.Job) {
			if g := checkRun(t, f, []impl.EvEvent{atSource(1), bad, e}); !isNoFlow(g) {
				t.Fatalf("%s: %+v", name, g)
			}
		}
	}
}

// checkWritten holds what was written against the document's words.
func checkWritten(t *testing.T, f impl.FloFlow) {
	t.Helper()
	var panes []impl.PanPane
	var lates []impl.LatPair
	for _, s := range f.Sinks {
		panes, lates = slices.Concat(panes, s.Panes), slices.Concat(lates, s.Lates)
	}
	if !isFlow(f) {
		panes, lates = nil, nil
	}
	if got := impl.FloPanes(f); !slices.Equal(got, panes) {
		t.Fatalf("%+v: panes %v, not %v", f, got, panes)
	}
	if got := impl.FloLates(f); !slices.Equal(got, lates) {
		t.Fatalf("%+v: pairs %v, not %v", f, got, lates)
	}
	if got, want := impl.FloTable(f), impl.TabOf(panes, f.Job.Piece); !impl.TabSame(got, want) || !slices.Equal(got, want) {
		t.Fatalf("%+v: table %v, not %v", f, got, want)
	}
}

func TestP24WhichSinksHaveWritten(t *testing.T) {
	first := []impl.PanPane{timely(0, 5, 10, one(4)), late(0, 5, 10, 1, one(3))}
	second := []impl.PanPane{timely(1, 0, 5, one(-2)), timely(3, 0, 5, one(9)), timely(1, 5, 10, one(1))}
	more, few := []impl.LatPair{lat(rec(7, 0, 4), 5, 10), lat(rec(6, 2, 4), 5, 10)}, lateTimes(1)
	for _, c := range []struct {
		name  string
		sinks []impl.FloSink
	}{
		{"nobody", []impl.FloSink{{}, {}}},
		{"nobody, by a number", []impl.FloSink{{N: 3}, {N: 3}}},
		{"the first one", []impl.FloSink{{Panes: first, Lates: more}, {}}},
		{"the second one", []impl.FloSink{{}, {Panes: second, Lates: few}}},
		{"both", []impl.FloSink{{Panes: first, Lates: more}, {Panes: second, Lates: few}}},
		{"the first one panes, the second one pairs", []impl.FloSink{{Panes: first}, {Lates: few}}},
		{"the first one pairs, the second one panes", []impl.FloSink{{Lates: more}, {Panes: second}}},
		{"nobody, but all is ready", []impl.FloSink{{Ready: []impl.TskTxn{txn(1, first, more)}}, {Ready: []impl.TskTxn{txn(1, second, few)}}}},
		{"as much as may be", []impl.FloSink{{Panes: paneTimes(1500), Lates: lateTimes(1500)}, {Panes: paneTimes(1500), Lates: lateTimes(1500)}}},
	} {
		for _, kind := range eachKind() {
			for _, j := range bothPieces(kind) {
				f := flowBy(plainFlow(j), func(f *impl.FloFlow) { f.Sinks = c.sinks })
				if !impl.FloOk(f) {
					t.Fatalf("%s: %+v is not ok", c.name, f)
				}
				checkWritten(t, f)
				wantPanes := slices.Concat(c.sinks[0].Panes, c.sinks[1].Panes)
				wantLates := slices.Concat(c.sinks[0].Lates, c.sinks[1].Lates)
				if !slices.Equal(impl.FloPanes(f), wantPanes) || !slices.Equal(impl.FloLates(f), wantLates) {
					t.Errorf("%s: %v and %v", c.name, impl.FloPanes(f), impl.FloLates(f))
				}
			}
		}
	}
}

func TestP24TheTableByPiece(t *testing.T) {
	for piece, want := range map[bool][]impl.TabRow{
		false: {row(0, 5, 10, one(3)), row(1, 0, 5, one(-2))},
		true:  {row(0, 5, 10, agg(2, 7, 3, 4)), row(1, 0, 5, one(-2))},
	} {
		f := flowBy(plainFlow(withLate(plainJob(impl.WinFixed, 5, 0), 4, piece)), func(f *impl.FloFlow) {
			f.Sinks[0].Panes = []impl.PanPane{timely(0, 5, 10, one(4)), timely(2, 0, 3, one(1)), late(0, 5, 10, 1, one(3)), gone(2, 0, 3, 1)}
			f.Sinks[1].Panes = []impl.PanPane{timely(1, 0, 5, one(-2))}
		})
		checkWritten(t, f)
		if got := impl.FloTable(f); !slices.Equal(got, want) {
			t.Errorf("Piece %v: %v, not %v", piece, got, want)
		}
	}
}

func TestP24OnTheWay(t *testing.T) {
	r := fixed()
	one, both := 0, 0
	for range 40 {
		j := anyJob(r)
		f := impl.FloNew(j, logsFor(r, j, 30))
		for range 12 {
			f = impl.FloDrain(impl.FloRun(f, eventsOf(r, j, 15)), r.Intn(4))
			checkWritten(t, f)
			count := 0
			for _, s := range f.Sinks {
				if len(s.Panes) > 0 {
					count++
				}
			}
			switch {
			case count == 2:
				both++
			case count == 1 && j.Tasks == 2:
				one++
			}
		}
	}
	if one < 20 || both < 20 {
		t.Fatalf("%d times one of two has written, %d times both", one, both)
	}
}

// checkRecords holds FloRecs and FloLeft against the document's words.
func checkRecords(t *testing.T, f impl.FloFlow) {
	t.Helper()
	var recs []impl.ItmItem
	left, all := 0, 0
	for at, log := range f.Logs {
		recs = append(recs, impl.LogRecs(log, f.Job.Least)...)
		all += len(log)
		if isFlow(f) {
			left += len(log) - f.Srcs[at].At
		}
	}
	if !isFlow(f) {
		recs = nil
	}
	if got := impl.FloRecs(f); !slices.Equal(got, recs) {
		t.Fatalf("%+v: records %v, not %v", f, got, recs)
	}
	if got := impl.FloLeft(f); got != left || got < 0 || got > all {
		t.Fatalf("%+v: %d left, not %d of %d", f, got, left, all)
	}
}

func TestP23RecordsByLeast(t *testing.T) {
	logs := [][]impl.ItmItem{
		{rec(1, 0, 4), rec(2, 1, -8), mark(7), rec(6, 2, 8), mark(1000)},
		{rec(5, 3, 3), mark(12), rec(5, 3, 3), rec(1, 2, 2), mark(1000)},
		{mark(1000)},
	}
	for least, want := range map[int][]impl.ItmItem{
		-9: {rec(1, 0, 4), rec(2, 1, -8), rec(6, 2, 8), rec(5, 3, 3), rec(5, 3, 3), rec(1, 2, 2)},
		-8: {rec(1, 0, 4), rec(2, 1, -8), rec(6, 2, 8), rec(5, 3, 3), rec(5, 3, 3), rec(1, 2, 2)},
		-7: {rec(1, 0, 4), rec(6, 2, 8), rec(5, 3, 3), rec(5, 3, 3), rec(1, 2, 2)},
		3:  {rec(1, 0, 4), rec(6, 2, 8), rec(5, 3, 3), rec(5, 3, 3)},
		4:  {rec(1, 0, 4), rec(6, 2, 8)},
		8:  {rec(6, 2, 8)},
		9:  nil,
	} {
		for tasks := 1; tasks <= 2; tasks++ {
			j := plainSized(3, tasks)
			j.Least = least
			f := impl.FloNew(j, logs)
			checkRecords(t, f)
			if got := impl.FloRecs(f); !slices.Equal(got, want) {
				t.Errorf("Least %d: %v, not %v", least, got, want)
			}
		}
	}
}

func TestP23HowManyAreLeft(t *testing.T) {
	for _, j := range sizedJobs() {
		for _, least := range []int{-9, 5, 9} {
			j.Least = least
			f := impl.FloNew(j, someLogs(j))
			all := []int{9, 14, 17}[j.Sources-1]
			if got := impl.FloLeft(f); got != all {
				t.Fatalf("%+v, at the beginning: %d, not %d", j, got, all)
			}
			recs := impl.FloRecs(f)
			for left := all; left > 0; {
				g := impl.FloRun(f, drainRound(j))
				for at, s := range g.Srcs {
					left -= s.At - f.Srcs[at].At
				}
				f = g
				if checkRecords(t, f); impl.FloLeft(f) != left || !slices.Equal(impl.FloRecs(f), recs) {
					t.Fatalf("%+v, on the way: %d, not %d", j, impl.FloLeft(f), left)
				}
			}
			f = impl.FloDrain(f, 400)
			if checkRecords(t, f); impl.FloLeft(f) != 0 || !slices.Equal(impl.FloRecs(f), recs) {
				t.Fatalf("%+v, at the end: %d", j, impl.FloLeft(f))
			}
		}
	}
}

// A crash lets more be left than ahead of it, but never more than there are.
func TestP23LeftBehindACrash(t *testing.T) {
	r := fixed()
	more := 0
	for range 60 {
		j := anyJob(r)
		f := impl.FloRun(impl.FloNew(j, logsFor(r, j, 30)), eventsOf(r, j, 100))
		g := impl.FloStep(f, toCrash)
		checkRecords(t, f)
		checkRecords(t, g)
		if impl.FloLeft(g) > impl.FloLeft(f) {
			more++
		}
	}
	if more < 20 {
		t.Fatalf("more is left behind %d crashes", more)
	}
}

// What is asked of a flow that is not ok has one answer.
func TestNothingIsWrittenInAFlowThatIsNotOk(t *testing.T) {
	for _, j := range eachKind() {
		for name, f := range flowsThatAreNotOk(j) {
			if impl.FloOk(f) {
				t.Fatalf("%s: %+v is ok", name, f)
			}
			if len(impl.FloPanes(f))+len(impl.FloLates(f))+len(impl.FloTable(f))+len(impl.FloRecs(f))+impl.FloLeft(f) != 0 || impl.FloDone(f) {
				t.Errorf("%s: %v %v %v %v %d", name, impl.FloPanes(f), impl.FloLates(f), impl.FloTable(f), impl.FloRecs(f), impl.FloLeft(f))
			}
			checkWritten(t, f)
			checkRecords(t, f)
		}
	}
}
