package tests

import (
	"math"
	"math/rand"
	"slices"
	"testing"

	"loop.example/freshet/impl"
)

// isAtEnd says the same as FloDone, from the document's words.
func isAtEnd(f impl.FloFlow) bool {
	if !isFlow(f) || f.Ckp.Open {
		return false
	}
	for at, log := range f.Logs {
		if f.Srcs[at].At != len(log) || f.Ckp.Safe.At[at] != len(log) {
			return false
		}
	}
	for at, k := range f.Tasks {
		if k.Op.Mark != 1000 || f.Ckp.Safe.Snaps[at].Op.Mark != 1000 || len(k.Pend.Panes) != 0 || len(k.Pend.Lates) != 0 || len(f.Sinks[at].Ready) != 0 {
			return false
		}
		for _, c := range k.Ins {
			if len(c.Queue) != 0 {
				return false
			}
		}
	}
	return true
}

// drainRound is what happens in a round, in order.
func drainRound(j impl.JobJob) []impl.EvEvent {
	return slices.Concat(sourceEvents(j), taskEvents(j), []impl.EvEvent{toAsk, toSave}, sinkEvents(j))
}

func sourceEvents(j impl.JobJob) []impl.EvEvent {
	var all []impl.EvEvent
	for at := range j.Sources {
		all = append(all, atSource(at))
	}
	return all
}

func taskEvents(j impl.JobJob) []impl.EvEvent {
	var all []impl.EvEvent
	for at := range j.Tasks {
		for in := range j.Sources {
			all = append(all, atTask(at, in))
		}
	}
	return all
}

func sinkEvents(j impl.JobJob) []impl.EvEvent {
	var all []impl.EvEvent
	for at := range j.Tasks {
		all = append(all, atSink(at))
	}
	return all
}

// drained says the same as FloDrain, from the document's words.
func drained(f impl.FloFlow, rounds int) impl.FloFlow {
	if !isFlow(f) || rounds > 400 {
		return impl.FloFlow{}
	}
	j := f.Job
	for n := 0; n < rounds && !isAtEnd(f); n++ {
		for _, e := range drainRound(j) {
			f = happened(f, e)
		}
	}
	return f
}

// checkDrain holds FloDrain and FloDone against the document's words.
func checkDrain(t *testing.T, f impl.FloFlow, rounds int) impl.FloFlow {
	t.Helper()
	got := impl.FloDrain(f, rounds)
	if want := drained(f, rounds); !sameFlow(got, want) {
		t.Fatalf("%d rounds of %+v: %+v, not %+v", rounds, f, got, want)
	}
	if impl.FloDone(got) != isAtEnd(got) {
		t.Fatalf("%+v is at its end: %v", got, impl.FloDone(got))
	}
	return got
}

// ended is a flow of a job at its end.
func ended(j impl.JobJob) impl.FloFlow {
	return impl.FloDrain(impl.FloNew(j, someLogs(j)), 400)
}

// endless is a flow that never comes to its end, as all was sent, but no mark has come; but each round asks for a checkpoint more, or makes it safe.
func endless(j impl.JobJob) impl.FloFlow {
	return flowBy(impl.FloNew(j, someLogs(j)), func(f *impl.FloFlow) {
		for at, log := range f.Logs {
			f.Srcs[at].At = len(log)
		}
	})
}

func TestFloDoneAtTheEnd(t *testing.T) {
	for _, j := range sizedJobs() {
		f := ended(j)
		if !impl.FloDone(f) || !isAtEnd(f) || impl.FloDone(impl.FloNew(j, someLogs(j))) {
			t.Fatalf("%+v", f)
		}
		// Nothing that is not named is anything to the end.
		for name, turn := range map[string]func(*impl.FloFlow){
			"numbers that were given up":  func(f *impl.FloFlow) { f.Ckp.N += 5 },
			"the last number of all":      func(f *impl.FloFlow) { f.Ckp.N = 900 },
			"nothing written":             func(f *impl.FloFlow) { f.Sinks = make([]impl.FloSink, j.Tasks) },
			"more written":                func(f *impl.FloFlow) { f.Sinks[0].Panes = paneTimes(1500) },
			"a sink of another number":    func(f *impl.FloFlow) { f.Sinks[0].N = 900 },
			"another wall of a source":    func(f *impl.FloFlow) { f.Srcs[0].Wall = 0 },
			"another wall of a task":      func(f *impl.FloFlow) { f.Tasks[0].Wall = 0 },
			"a safe checkpoint of number": func(f *impl.FloFlow) { f.Ckp.Safe.N = 0 },
			"empty lists": func(f *impl.FloFlow) {
				f.Tasks[0].Ins[0].Queue, f.Tasks[0].Pend, f.Sinks[0].Ready = []impl.ItmItem{}, txn(0, []impl.PanPane{}, []impl.LatPair{}), []impl.TskTxn{}
			},
			"a channel that is held": func(f *impl.FloFlow) { f.Tasks[0].Ins[0].Held = j.Sources > 1 },
			"the shortest logs": func(f *impl.FloFlow) {
				for at := range f.Logs {
					f.Logs[at], f.Srcs[at].At, f.Ckp.Safe.At[at] = times(1, mark(1000)), 1, 1
				}
			},
		} {
			g := flowBy(f, turn)
			if !impl.FloOk(g) || !impl.FloDone(g) || !isAtEnd(g) {
				t.Errorf("%s, %+v: not at its end: %+v", name, j, g)
			}
			if h := checkDrain(t, g, 400); !sameFlow(h, g) {
				t.Errorf("%s, %+v: %+v", name, j, h)
			}
		}
	}
}

// notEnded is a flow at its end with each single thing otherwise that the chapter names.
func notEnded(j impl.JobJob) map[string][]impl.FloFlow {
	all := map[string][]impl.FloFlow{}
	end := ended(j)
	add := func(name string, turn func(*impl.FloFlow)) {
		all[name] = append(all[name], flowBy(end, turn))
	}
	add("a checkpoint under way", func(f *impl.FloFlow) { f.Ckp = impl.CkpAsk(j, f.Ckp) })
	add("a checkpoint under way for which all have told", func(f *impl.FloFlow) {
		f.Ckp = impl.CkpAsk(j, f.Ckp)
		for at := range f.Srcs {
			f.Ckp.Src[at] = f.Srcs[at].At
		}
		for at, k := range f.Tasks {
			f.Ckp.Tsk[at], f.Ckp.Snaps[at] = true, keptOf(k)
		}
	})
	for at := range j.Sources {
		add("a source one item ahead of the end", func(f *impl.FloFlow) { f.Srcs[at].At-- })
		add("a source at the beginning", func(f *impl.FloFlow) { f.Srcs[at].At = 0 })
		add("what is safe of a source one item ahead of the end", func(f *impl.FloFlow) { f.Ckp.Safe.At[at]-- })
		add("what is safe of a source at the beginning", func(f *impl.FloFlow) { f.Ckp.Safe.At[at] = 0 })
	}
	for at := range j.Tasks {
		for in := range j.Sources {
			for _, m := range []int{999, 60, 0} {
				add("an operator's Mark below the end", func(f *impl.FloFlow) { f.Tasks[at].Ins[in].Mark, f.Tasks[at].Op.Mark = m, m })
				add("the Mark of what is safe below the end", func(f *impl.FloFlow) {
					s := &f.Ckp.Safe.Snaps[at]
					s.Marks[in], s.Op.Mark = m, m
				})
			}
			for _, x := range []impl.ItmItem{rec(7, 1, 4), mark(5), mark(1000), wall(1), wall(900)} {
				add("a channel with an item", func(f *impl.FloFlow) { f.Tasks[at].Ins[in].Queue = times(1, x) })
			}
		}
		add("a pane told since", func(f *impl.FloFlow) { f.Tasks[at].Pend.Panes = paneTimes(1) })
		add("a pair told since", func(f *impl.FloFlow) { f.Tasks[at].Pend.Lates = lateTimes(1) })
		for _, n := range []int{0, 1} {
			add("something ready", func(f *impl.FloFlow) {
				s := &f.Sinks[at]
				s.N, s.Ready = f.Ckp.Safe.N-1, []impl.TskTxn{txn(f.Ckp.Safe.N+n, paneTimes(n), nil)}
			})
		}
	}
	return all
}

func TestFloDoneWithEachSingleThingOtherwise(t *testing.T) {
	for _, j := range sizedJobs() {
		for name, flows := range notEnded(j) {
			for _, f := range flows {
				if !impl.FloOk(f) || impl.FloDone(f) || isAtEnd(f) {
					t.Errorf("%s, %+v: ok %v, at its end %v: %+v", name, j, impl.FloOk(f), impl.FloDone(f), f)
				}
			}
		}
	}
}

func TestFloDoneOfAFlowThatIsNotOk(t *testing.T) {
	r := fixed()
	broken := 0
	for range 60 {
		f := ended(pick(r, sizedJobs()))
		for range 40 {
			g := brokenFlow(r, f)
			if impl.FloDone(g) != isAtEnd(g) {
				t.Fatalf("%+v is at its end: %v", g, impl.FloDone(g))
			}
			if !impl.FloOk(g) {
				broken++
				if impl.FloDone(g) {
					t.Fatalf("%+v is at its end", g)
				}
			}
		}
	}
	for name, f := range flowsThatAreNotOk(plainJob(impl.WinFixed, 5, 0)) {
		if impl.FloDone(f) {
			t.Errorf("%s: %+v is at its end", name, f)
		}
	}
	if broken < 500 {
		t.Fatalf("%d are not ok", broken)
	}
}

func TestFloDoneOnTheWay(t *testing.T) {
	r := fixed()
	for _, j := range sizedJobs() {
		f := impl.FloNew(j, someLogs(j))
		for range 60 {
			f = impl.FloRun(f, eventsOf(r, j, 7))
			if impl.FloDone(f) != isAtEnd(f) {
				t.Fatalf("%+v is at its end: %v", f, impl.FloDone(f))
			}
		}
	}
}

// lastRounds is how many rounds a flow takes to its end.
func lastRounds(t *testing.T, f impl.FloFlow) int {
	t.Helper()
	for n := 0; n <= 400; n++ {
		if impl.FloDone(f) {
			return n
		}
		f = impl.FloDrain(f, 1)
	}
	t.Fatalf("not at its end: %+v", f)
	return 0
}

func TestP26NoRounds(t *testing.T) {
	r := fixed()
	for _, f := range append(flowsOnTheWay(r), ended(plainSized(2, 2)), endless(plainSized(2, 2))) {
		for _, n := range []int{0, -1, -2, -400, -401, math.MinInt32, math.MinInt + 1, math.MinInt} {
			if g := checkDrain(t, f, n); !sameFlow(g, f) || !impl.FloOk(g) {
				t.Fatalf("%d rounds of %+v: %+v", n, f, g)
			}
		}
	}
}

func TestP26TooManyRounds(t *testing.T) {
	r := fixed()
	for _, f := range append(flowsOnTheWay(r), ended(plainSized(2, 2)), endless(plainSized(2, 2))) {
		for _, n := range []int{401, 402, 800, 1000, math.MaxInt32, math.MaxInt - 1, math.MaxInt} {
			if g := checkDrain(t, f, n); !isNoFlow(g) {
				t.Fatalf("%d rounds of %+v: %+v", n, f, g)
			}
		}
	}
}

func TestP26RoundByRound(t *testing.T) {
	r := fixed()
	for _, f := range flowsOnTheWay(r) {
		g := checkDrain(t, f, 1)
		for n := 1; n <= 30; n++ {
			if whole := impl.FloDrain(f, n); !sameFlow(g, whole) {
				t.Fatalf("%d rounds of %+v: %+v, one by one %+v", n, f, whole, g)
			}
			g = checkDrain(t, g, 1)
		}
	}
}

// A flow that never comes to its end turns with each round, up to the last one that may be.
func TestP26AsManyRoundsAsMayBe(t *testing.T) {
	for _, j := range []impl.JobJob{plainSized(1, 1), plainSized(2, 2), plainSized(3, 1)} {
		f := endless(j)
		var before impl.FloFlow
		for _, n := range []int{1, 2, 50, 398, 399, 400} {
			g := checkDrain(t, f, n)
			if !impl.FloOk(g) || impl.FloDone(g) || sameFlow(g, before) {
				t.Fatalf("%d rounds: %+v", n, g)
			}
			if n < 400 {
				if next, whole := impl.FloDrain(g, 1), impl.FloDrain(f, n+1); !sameFlow(next, whole) {
					t.Fatalf("%d rounds, and one: %+v, not %+v", n, next, whole)
				}
			}
			before = g
		}
	}
}

func TestP26AtItsEndAlready(t *testing.T) {
	for _, j := range sizedJobs() {
		f := ended(j)
		for _, n := range []int{math.MinInt, -1, 0, 1, 2, 399, 400} {
			if g := checkDrain(t, f, n); !sameFlow(g, f) {
				t.Fatalf("%d rounds of %+v: %+v", n, f, g)
			}
		}
		if g := checkDrain(t, f, 401); !isNoFlow(g) {
			t.Fatalf("401 rounds of %+v: %+v", f, g)
		}
	}
}

// The last round that turns anything is that by which a flow is at its end.
func TestP26AsManyRoundsAsItTakes(t *testing.T) {
	r := fixed()
	for _, j := range sizedJobs() {
		f := impl.FloNew(j, logsFor(r, j, 10))
		n := lastRounds(t, f)
		last := checkDrain(t, f, n)
		if before := checkDrain(t, f, n-1); impl.FloDone(before) || sameFlow(before, last) || !impl.FloDone(last) {
			t.Fatalf("%d rounds of %+v: %+v", n-1, f, before)
		}
		for _, m := range []int{n + 1, n + 2, 399, 400} {
			if g := impl.FloDrain(f, m); !sameFlow(g, last) {
				t.Fatalf("%d rounds of %+v: %+v", m, f, g)
			}
		}
	}
}

func TestP26AFlowThatIsNotOk(t *testing.T) {
	for _, j := range eachKind() {
		for name, f := range flowsThatAreNotOk(j) {
			for _, n := range []int{math.MinInt, -1, 0, 1, 400, 401, math.MaxInt} {
				if g := checkDrain(t, f, n); !isNoFlow(g) {
					t.Fatalf("%s, %d rounds: %+v", name, n, g)
				}
			}
		}
	}
}

// A flow that is not ok any more in a round comes to nothing, as each step of it does.
func TestDrainsOfAFlowThatIsNotOkAnyMoreOnTheWay(t *testing.T) {
	for name, f := range strays() {
		for _, n := range []int{-1, 0, 1, 2, 400} {
			if g := checkDrain(t, f, n); isNoFlow(g) != (n > 0) {
				t.Fatalf("%s, %d rounds: %+v", name, n, g)
			}
		}
	}
}

// otherRounds is rounds in another order, or without a part.
func otherRounds(j impl.JobJob) map[string][]impl.EvEvent {
	sources, tasks, sinks := sourceEvents(j), taskEvents(j), sinkEvents(j)
	ask, save := []impl.EvEvent{toAsk}, []impl.EvEvent{toSave}
	backwards := slices.Clone(tasks)
	slices.Reverse(backwards)
	return map[string][]impl.EvEvent{
		"tasks ahead of sources":           slices.Concat(tasks, sources, ask, save, sinks),
		"channels in the other order":      slices.Concat(sources, backwards, ask, save, sinks),
		"ask ahead of all":                 slices.Concat(ask, sources, tasks, save, sinks),
		"ask ahead of tasks":               slices.Concat(sources, ask, tasks, save, sinks),
		"save ahead of ask":                slices.Concat(sources, tasks, save, ask, sinks),
		"save ahead of tasks":              slices.Concat(sources, save, tasks, ask, sinks),
		"sinks ahead of save":              slices.Concat(sources, tasks, ask, sinks, save),
		"sinks ahead of tasks":             slices.Concat(sources, sinks, tasks, ask, save),
		"sinks first":                      slices.Concat(sinks, sources, tasks, ask, save),
		"no sources":                       slices.Concat(tasks, ask, save, sinks),
		"no tasks":                         slices.Concat(sources, ask, save, sinks),
		"no ask":                           slices.Concat(sources, tasks, save, sinks),
		"no save":                          slices.Concat(sources, tasks, ask, sinks),
		"no sinks":                         slices.Concat(sources, tasks, ask, save),
		"sources twice":                    slices.Concat(sources, sources, tasks, ask, save, sinks),
		"tasks twice":                      slices.Concat(sources, tasks, tasks, ask, save, sinks),
		"the first source alone":           slices.Concat(sources[:1], tasks, ask, save, sinks),
		"the first sink alone":             slices.Concat(sources, tasks, ask, save, sinks[:1]),
		"the first channels alone":         slices.Concat(sources, tasks[:1], ask, save, sinks),
		"a crash behind all":               append(drainRound(j), toCrash),
		"what is under way given up first": append([]impl.EvEvent{toDrop}, drainRound(j)...),
	}
}

// otherOrders is how often each round in another order comes to something else, in flows of each size and Kind.
func otherOrders(t *testing.T, r *rand.Rand, flow func(j impl.JobJob) impl.FloFlow, times int) map[string]int {
	t.Helper()
	differs := map[string]int{}
	for range times {
		for _, j := range sizedJobs() {
			j.Room = 1 + r.Intn(4)
			f := flow(j)
			g := checkDrain(t, f, 1)
			if impl.FloDone(f) {
				continue
			}
			for name, events := range otherRounds(j) {
				if !sameFlow(ran(f, events), g) {
					differs[name]++
				}
			}
		}
	}
	return differs
}

func TestARoundIsInOrder(t *testing.T) {
	r := fixed()
	onTheWay := otherOrders(t, r, func(j impl.JobJob) impl.FloFlow {
		return impl.FloDrain(impl.FloRun(impl.FloNew(j, logsFor(r, j, 20)), eventsOf(r, j, r.Intn(150))), r.Intn(6))
	}, 8)
	any := otherOrders(t, r, func(j impl.JobJob) impl.FloFlow { return anyFlow(r, j) }, 8)
	for name := range otherRounds(plainSized(1, 1)) {
		if onTheWay[name]+any[name] < 3 {
			t.Errorf("%s: comes to something else %d and %d times", name, onTheWay[name], any[name])
		}
	}
}

// A wall of the next number, which no event leads to, is one that was asked for only behind the ask.
func TestARoundAsksBehindTheTasks(t *testing.T) {
	for _, j := range sizedJobs() {
		f := flowBy(impl.FloNew(j, someLogs(j)), func(f *impl.FloFlow) {
			f.Tasks[j.Tasks-1].Ins[j.Sources-1].Queue = times(1, wall(1))
		})
		if g := checkDrain(t, f, 1); !isNoFlow(g) || isNoFlow(ran(f, otherRounds(j)["ask ahead of tasks"])) {
			t.Fatalf("%+v: %+v", f, g)
		}
	}
}

// A flow by hand, round by round.
func TestARoundByHand(t *testing.T) {
	j := plainSized(2, 1)
	j.Room, j.Least = 1, -9
	f := impl.FloNew(j, [][]impl.ItmItem{{rec(1, 0, 4), mark(1000)}, {rec(2, 0, 3), mark(1000)}})
	f = checkDrain(t, f, 1)
	if k := f.Tasks[0]; f.Srcs[0].At != 1 || f.Srcs[1].At != 1 || len(k.Ins[0].Queue)+len(k.Ins[1].Queue) != 0 || impl.TskHeld(k) != 0 || len(k.Op.Rows) != 1 || k.Op.Rows[0].All.N != 2 {
		t.Fatalf("both records were sent and taken in the first round: %+v", f)
	}
	if !f.Ckp.Open || f.Ckp.N != 1 || f.Srcs[0].Wall != 0 || f.Ckp.Src[0] != -1 {
		t.Fatalf("the first checkpoint was asked for behind that: %+v", f)
	}
	f = checkDrain(t, f, 1)
	if f.Ckp.Open || f.Ckp.N != 1 || f.Ckp.Safe.N != 1 || f.Srcs[1].Wall != 1 || f.Sinks[0].N != 1 || len(f.Sinks[0].Ready) != 0 {
		t.Fatalf("its walls came by, it was saved and written in the second round, and no other one was asked for: %+v", f)
	}
	f = checkDrain(t, f, 1)
	if !f.Ckp.Open || f.Ckp.N != 2 || f.Srcs[1].At != 2 || f.Tasks[0].Op.Mark != 1000 || len(f.Tasks[0].Pend.Panes) != 1 || len(f.Sinks[0].Panes) != 0 {
		t.Fatalf("the end came by, and the next one was asked for, in the third round: %+v", f)
	}
	f = checkDrain(t, f, 1)
	if !impl.FloDone(f) || f.Ckp.N != 2 || len(f.Sinks[0].Panes) != 1 {
		t.Fatalf("all is written in the fourth round: %+v", f)
	}
}
