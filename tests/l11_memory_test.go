package tests

import (
	"math"
	"math/rand"
	"runtime"
	"slices"
	"sync"
	"testing"

	"loop.example/freshet/impl"
)

// spoilWritten writes over all that is told of a flow.
func spoilWritten(f impl.FloFlow) {
	fill(impl.FloPanes(f), gone(66, 66, 66, 66))
	fill(impl.FloLates(f), lat(rec(66, 66, 66), 66, 66))
	fill(impl.FloTable(f), row(66, 66, 66, one(6)))
	fill(impl.FloRecs(f), rec(66, 66, 66))
}

func TestRunsLeaveTheirArguments(t *testing.T) {
	r := fixed()
	for range 500 {
		was := anyFlow(r, anyJob(r))
		switch r.Intn(8) {
		case 0:
			was = brokenFlow(r, was)
		case 1:
			was = ended(pick(r, sizedJobs()))
		}
		g := guardFlow(was, r.Intn(2) == 0)
		events := guard(eventsOf(r, anyJob(r), r.Intn(12)), toCrash)
		spoilFlow(impl.FloRun(g.flow, events.given))
		events.check(t, "FloRun")
		g.check(t, "FloRun", was)
		spoilFlow(impl.FloRun(g.flow, nil))
		g.check(t, "FloRun of no events", was)
		spoilFlow(impl.FloDrain(g.flow, 1+r.Intn(3)))
		g.check(t, "FloDrain", was)
		spoilFlow(impl.FloDrain(g.flow, -r.Intn(2)))
		g.check(t, "FloDrain of no rounds", was)
		spoilWritten(g.flow)
		g.check(t, "FloPanes, FloLates, FloTable or FloRecs", was)
		impl.FloDone(g.flow)
		impl.FloLeft(g.flow)
		g.check(t, "FloDone or FloLeft", was)
	}
}

// An answer stays as it was, whatever is written into the argument, into another answer, and into any other list of it.
func TestRunsAnswerInMemoryOfTheirOwn(t *testing.T) {
	r := fixed()
	for range 700 {
		was := anyFlow(r, anyJob(r))
		if r.Intn(6) == 0 {
			was = ended(pick(r, sizedJobs()))
		}
		events := eventsOf(r, was.Job, pick(r, []int{0, 0, 1, 2, 9}))
		rounds := pick(r, []int{-1, 0, 1, 2, 5})
		given, row := flowCopy(was), slices.Clone(events)
		run, drain := impl.FloRun(given, row), impl.FloDrain(given, rounds)
		checkFlowApart(t, "FloRun", impl.FloRun(given, row))
		checkFlowApart(t, "FloDrain", impl.FloDrain(given, rounds))
		panes, lates, table, recs := impl.FloPanes(given), impl.FloLates(given), impl.FloTable(given), impl.FloRecs(given)
		spoilWritten(given)
		spoilFlow(given)
		fill(row, toCrash)
		if !sameFlow(run, ran(was, events)) || !sameFlow(drain, drained(was, rounds)) {
			t.Fatalf("%+v, %d rounds of %+v have turned: %+v, %+v", events, rounds, was, run, drain)
		}
		if !slices.Equal(panes, impl.FloPanes(was)) || !slices.Equal(lates, impl.FloLates(was)) || !slices.Equal(table, impl.FloTable(was)) || !slices.Equal(recs, impl.FloRecs(was)) {
			t.Fatalf("%+v: what is told of it has turned: %v %v %v %v", was, panes, lates, table, recs)
		}
	}
}

// What is told of a flow shares nothing with a second answer, spare room included.
func TestWhatIsToldIsNewEachTime(t *testing.T) {
	for _, j := range sizedJobs() {
		f := ended(j)
		panes, lates, table, recs := impl.FloPanes(f), impl.FloLates(f), impl.FloTable(f), impl.FloRecs(f)
		wasPanes, wasLates, wasTable, wasRecs := slices.Clone(panes), slices.Clone(lates), slices.Clone(table), slices.Clone(recs)
		spoilWritten(f)
		if !slices.Equal(panes, wasPanes) || !slices.Equal(lates, wasLates) || !slices.Equal(table, wasTable) || !slices.Equal(recs, wasRecs) {
			t.Fatalf("%+v: %v %v %v %v", f, panes, lates, table, recs)
		}
	}
}

// Lists of an argument may be one and the same; those of an answer may not.
func TestRunsOfListsThatAreOne(t *testing.T) {
	j := plainSized(2, 2)
	panes, lates := paneTimes(3), lateTimes(3)
	f := flowBy(ended(j), func(f *impl.FloFlow) {
		f.Logs[1] = f.Logs[0]
		f.Srcs[1], f.Ckp.Safe.At[1] = f.Srcs[0], f.Ckp.Safe.At[0]
		f.Tasks[1], f.Ckp.Safe.Snaps[1] = f.Tasks[0], f.Ckp.Safe.Snaps[0]
		f.Sinks[0].Panes, f.Sinks[0].Lates, f.Sinks[1].Panes, f.Sinks[1].Lates = panes, lates, panes, lates
	})
	was := flowCopy(f)
	for _, n := range []int{-1, 0, 1, 400} {
		checkFlowApart(t, n, checkDrain(t, f, n))
	}
	for _, events := range [][]impl.EvEvent{nil, {toAsk}, drainRound(j)} {
		checkFlowApart(t, events, checkRun(t, f, events))
	}
	if spoilWritten(f); !sameFlow(f, was) {
		t.Fatalf("%+v, was %+v", f, was)
	}
}

// The empty list and the nil list are the same value.
func TestRunsOfEmptyLists(t *testing.T) {
	for _, j := range sizedJobs() {
		f := impl.FloNew(j, someLogs(j))
		for at := range f.Tasks {
			k := &f.Tasks[at]
			for i := range k.Ins {
				k.Ins[i].Queue = []impl.ItmItem{}
			}
			k.Op.Rows, k.Pend = []impl.OpRow{}, txn(0, []impl.PanPane{}, []impl.LatPair{})
			f.Sinks[at] = impl.FloSink{Ready: []impl.TskTxn{}, Panes: []impl.PanPane{}, Lates: []impl.LatPair{}}
		}
		if !sameFlow(impl.FloDrain(f, 400), ended(j)) || !sameFlow(impl.FloRun(f, []impl.EvEvent{}), f) {
			t.Fatalf("%+v", f)
		}
		if len(impl.FloPanes(f))+len(impl.FloLates(f))+len(impl.FloTable(f)) != 0 {
			t.Fatalf("%+v", f)
		}
	}
}

func TestRunsAnswerTheSameEachTime(t *testing.T) {
	r := fixed()
	for range 60 {
		f := anyFlow(r, anyJob(r))
		events, rounds := eventsOf(r, f.Job, 20), r.Intn(12)
		run, drain, done := impl.FloRun(f, events), impl.FloDrain(f, rounds), impl.FloDone(f)
		panes, table := impl.FloPanes(f), impl.FloTable(f)
		for range 10 {
			if !sameFlow(impl.FloRun(f, events), run) || !sameFlow(impl.FloDrain(f, rounds), drain) || impl.FloDone(f) != done {
				t.Fatalf("%+v, %d rounds of %+v", events, rounds, f)
			}
			if !slices.Equal(impl.FloPanes(f), panes) || !slices.Equal(impl.FloTable(f), table) {
				t.Fatalf("%+v", f)
			}
		}
	}
}

// Calls that are made at the same time, of the same argument, are nothing to each other.
func TestRunsAnswerAtTheSameTime(t *testing.T) {
	r := fixed()
	for range 12 {
		f := anyFlow(r, anyJob(r))
		events := eventsOf(r, f.Job, 20)
		runs, drains := make([]impl.FloFlow, 8), make([]impl.FloFlow, 8)
		var all sync.WaitGroup
		for i := range runs {
			all.Go(func() { runs[i] = impl.FloRun(f, events[:i*2]) })
			all.Go(func() { drains[i] = impl.FloDrain(f, i) })
			all.Go(func() { spoilWritten(f) })
		}
		all.Wait()
		for i := range runs {
			if !sameFlow(runs[i], ran(f, events[:i*2])) || !sameFlow(drains[i], drained(f, i)) {
				t.Fatalf("%+v, %d rounds of %+v: %+v and %+v", events[:i*2], i, f, runs[i], drains[i])
			}
		}
	}
}

// No goroutine is left behind.
func TestRunsLeaveNobodyAtWork(t *testing.T) {
	r := fixed()
	before := runtime.NumGoroutine()
	for range 20 {
		f := anyFlow(r, anyJob(r))
		impl.FloRun(f, eventsOf(r, f.Job, 60))
		impl.FloDrain(f, 20)
		impl.FloDrain(brokenFlow(r, f), 20)
	}
	for _, f := range strays() {
		impl.FloDrain(f, 400)
	}
	// One that has said that it is done may yet have to go.
	for n := 0; n < 10000 && runtime.NumGoroutine() > before; n++ {
		runtime.Gosched()
	}
	if after := runtime.NumGoroutine(); after > before {
		t.Fatalf("%d goroutines ahead, %d behind", before, after)
	}
}

// anyRounds is a number of rounds, of which only a few ask for many.
func anyRounds(r *rand.Rand) int {
	switch r.Intn(6) {
	case 0:
		return pick(r, []int{math.MinInt, math.MinInt + 1, -401, -400, -1, 401, 402, 500, math.MaxInt - 1, math.MaxInt})
	case 1:
		return pick(r, edges)
	}
	return r.Intn(4)
}

func TestRunsAnswerAtEveryArgument(t *testing.T) {
	r := fixed()
	for range 6000 {
		f := okOrNot(r)
		if r.Intn(5) == 0 {
			f = brokenFlow(r, ended(pick(r, sizedJobs())))
		}
		events := several(r, 4, func(r *rand.Rand) impl.EvEvent {
			return impl.EvEvent{Kind: pick(r, append(edges, 1, 2, 3, 4, 5, 6, 7)), At: pick(r, edges), In: pick(r, edges)}
		})
		events = append(events, eventsOf(r, impl.JobJob{Sources: 3, Tasks: 2}, r.Intn(6))...)
		rounds := anyRounds(r)
		quiet(t, []any{f, events, rounds}, func() {
			checkRun(t, f, events)
			checkDrain(t, f, rounds)
			checkWritten(t, f)
			checkRecords(t, f)
			if impl.FloDone(f) != isAtEnd(f) {
				t.Fatalf("%+v is at its end: %v", f, impl.FloDone(f))
			}
		})
	}
}

func TestRunsAnswerAtTheSameNumberAllOver(t *testing.T) {
	for _, n := range edges {
		x := impl.ItmItem{Kind: n, T: n, Key: n, V: n, N: n}
		known := agg(n, n, n, n)
		p, l := impl.PanPane{Key: n, Win: win(n, n), No: n, Kind: n, Agg: known}, lat(x, n, n)
		s := snap(operator(n, impl.OpRow{Key: n, Win: win(n, n), All: known, Fresh: known, Told: n}), n, n)
		k := impl.TskTask{Ins: []impl.TskIn{in(n, x), held(n, x)}, Op: s.Op, Wall: n, Pend: txn(n, []impl.PanPane{p}, []impl.LatPair{l})}
		all := impl.FloFlow{
			Job: impl.JobJob{Sources: n, Tasks: n, Kind: n, Size: n, Step: n, Late: n, Tell: n, Least: n, Room: n}, Logs: [][]impl.ItmItem{{x}, {x}},
			Srcs: []impl.FloSrc{{At: n, Wall: n}, {At: n, Wall: n}}, Tasks: []impl.TskTask{k, k},
			Sinks: slices.Repeat([]impl.FloSink{{Ready: []impl.TskTxn{k.Pend}, N: n, Panes: k.Pend.Panes, Lates: k.Pend.Lates}}, 2),
			Ckp:   impl.CkpState{N: n, Open: true, Src: []int{n, n}, Tsk: []bool{true, true}, Snaps: []impl.CkpSnap{s, s}, Safe: safe(n, []int{n, n}, s, s)},
		}
		for _, plain := range []impl.FloFlow{plainFlow(plainSized(2, 2)), ended(plainSized(2, 2))} {
			flows := []impl.FloFlow{all, plain}
			for at := range 6 {
				flows = append(flows, partOfFlow(plain, all, at))
			}
			for _, f := range flows {
				quiet(t, []any{f, n}, func() {
					checkRun(t, f, slices.Repeat([]impl.EvEvent{{Kind: n, At: n, In: n}, {Kind: impl.EvTask, At: n, In: n}}, 2))
					checkDrain(t, f, n)
					checkWritten(t, f)
					checkRecords(t, f)
				})
			}
		}
	}
}
