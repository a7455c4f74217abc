package tests

import (
	"math"
	"math/rand"
	"slices"
	"testing"

	"loop.example/freshet/impl"
)

func TestNumbersOfFlows(t *testing.T) {
	for i, n := range []int{impl.EvSrc, impl.EvTask, impl.EvAsk, impl.EvSave, impl.EvDrop, impl.EvCommit, impl.EvCrash} {
		if n != i+1 {
			t.Errorf("%d is %d", i+1, n)
		}
	}
	if impl.FloMax != 1500 {
		t.Error(impl.FloMax)
	}
}

func atSource(at int) impl.EvEvent {
	return impl.EvEvent{Kind: impl.EvSrc, At: at}
}

func atTask(at, in int) impl.EvEvent {
	return impl.EvEvent{Kind: impl.EvTask, At: at, In: in}
}

func atSink(at int) impl.EvEvent {
	return impl.EvEvent{Kind: impl.EvCommit, At: at}
}

var (
	toAsk   = impl.EvEvent{Kind: impl.EvAsk}
	toSave  = impl.EvEvent{Kind: impl.EvSave}
	toDrop  = impl.EvEvent{Kind: impl.EvDrop}
	toCrash = impl.EvEvent{Kind: impl.EvCrash}
)

// allEvents is each thing that may happen in a flow of a job, and some that do not fit.
func allEvents(j impl.JobJob) []impl.EvEvent {
	all := []impl.EvEvent{{}, {Kind: 8}, {Kind: -1}, toAsk, toSave, toDrop, toCrash}
	for at := -1; at <= j.Sources; at++ {
		all = append(all, atSource(at))
	}
	for at := -1; at <= j.Tasks; at++ {
		all = append(all, atSink(at))
		for in := -1; in <= j.Sources; in++ {
			all = append(all, atTask(at, in))
		}
	}
	return all
}

func sameSink(a, b impl.FloSink) bool {
	return slices.EqualFunc(a.Ready, b.Ready, sameTxn) && a.N == b.N && slices.Equal(a.Panes, b.Panes) && slices.Equal(a.Lates, b.Lates)
}

func sameLogs(a, b [][]impl.ItmItem) bool {
	return slices.EqualFunc(a, b, slices.Equal)
}

func sameFlow(a, b impl.FloFlow) bool {
	return a.Job == b.Job && sameLogs(a.Logs, b.Logs) && slices.Equal(a.Srcs, b.Srcs) && slices.EqualFunc(a.Tasks, b.Tasks, sameTask) &&
		slices.EqualFunc(a.Sinks, b.Sinks, sameSink) && sameCkp(a.Ckp, b.Ckp)
}

func isNoFlow(f impl.FloFlow) bool {
	return sameFlow(f, impl.FloFlow{})
}

func txnCopy(x impl.TskTxn) impl.TskTxn {
	return txn(x.N, slices.Clone(x.Panes), slices.Clone(x.Lates))
}

// flowCopy is a flow in memory of its own.
func flowCopy(f impl.FloFlow) impl.FloFlow {
	g := impl.FloFlow{Job: f.Job, Logs: slices.Clone(f.Logs), Srcs: slices.Clone(f.Srcs), Tasks: slices.Clone(f.Tasks), Sinks: slices.Clone(f.Sinks), Ckp: ckpCopy(f.Ckp)}
	for i, log := range g.Logs {
		g.Logs[i] = slices.Clone(log)
	}
	for i, k := range g.Tasks {
		g.Tasks[i] = copyOf(k)
	}
	for i, s := range g.Sinks {
		c := impl.FloSink{N: s.N, Panes: slices.Clone(s.Panes), Lates: slices.Clone(s.Lates)}
		for _, x := range s.Ready {
			c.Ready = append(c.Ready, txnCopy(x))
		}
		g.Sinks[i] = c
	}
	return g
}

// flowBy is a copy of a flow with something else in it.
func flowBy(f impl.FloFlow, turn func(*impl.FloFlow)) impl.FloFlow {
	g := flowCopy(f)
	turn(&g)
	return g
}

// isSink says whether a sink is ok, from the document's words.
func isSink(s impl.FloSink) bool {
	if s.N < 0 || s.N > 900 || len(s.Ready) > 12 || len(s.Panes) > 1500 || len(s.Lates) > 1500 {
		return false
	}
	for i, x := range s.Ready {
		if !isTxn(x) || x.N <= s.N || i > 0 && x.N <= s.Ready[i-1].N {
			return false
		}
	}
	return !slices.ContainsFunc(s.Panes, func(p impl.PanPane) bool { return !isPane(p) }) &&
		!slices.ContainsFunc(s.Lates, func(l impl.LatPair) bool { return !isPair(l) })
}

// isFlow says the same as FloOk, from the document's words.
func isFlow(f impl.FloFlow) bool {
	j := f.Job
	if !isCkp(j, f.Ckp) || len(f.Logs) != j.Sources || len(f.Srcs) != j.Sources || len(f.Tasks) != j.Tasks || len(f.Sinks) != j.Tasks {
		return false
	}
	for i, s := range f.Srcs {
		long := len(f.Logs[i])
		if !impl.LogOk(f.Logs[i]) || s.At < 0 || s.At > long || f.Ckp.Safe.At[i] > long || s.Wall < 0 || s.Wall > f.Ckp.N {
			return false
		}
	}
	for i, k := range f.Tasks {
		if !isTask(j, k) || k.Wall > f.Ckp.N || !isSink(f.Sinks[i]) {
			return false
		}
	}
	return true
}

// happened says the same as FloStep, from the document's words, with no task at work beside another one.
func happened(f impl.FloFlow, e impl.EvEvent) impl.FloFlow {
	if !isFlow(f) {
		return impl.FloFlow{}
	}
	g := flowCopy(f)
	switch e.Kind {
	case impl.EvSrc:
		sourceTurn(&g, e.At)
	case impl.EvTask:
		taskTurn(&g, e.At, e.In)
	case impl.EvAsk:
		g.Ckp = asked(f.Job, f.Ckp)
	case impl.EvSave:
		g.Ckp, _ = saved(f.Job, f.Ckp)
	case impl.EvDrop:
		g.Ckp = dropped(f.Job, f.Ckp)
	case impl.EvCommit:
		sinkTurn(&g, e.At)
	case impl.EvCrash:
		crashTurn(&g)
	}
	return g
}

// sourceTurn says what EvSrc turns.
func sourceTurn(f *impl.FloFlow, at int) {
	if at < 0 || at >= len(f.Srcs) {
		return
	}
	s := &f.Srcs[at]
	room := func(task int) bool { return len(f.Tasks[task].Ins[at].Queue) < f.Job.Room }
	all := room(0) && room(len(f.Tasks)-1)
	send := func(task int, x impl.ItmItem) {
		c := &f.Tasks[task].Ins[at]
		c.Queue = append(c.Queue, x)
	}
	sendAll := func(x impl.ItmItem) {
		for task := range f.Tasks {
			send(task, x)
		}
	}
	if f.Ckp.Open && s.Wall < f.Ckp.N {
		if all {
			sendAll(wall(f.Ckp.N))
			s.Wall = f.Ckp.N
			f.Ckp.Src[at] = s.At
		}
		return
	}
	if s.At == len(f.Logs[at]) {
		return
	}
	x := f.Logs[at][s.At]
	switch {
	case x.Kind == impl.ItmMark && all:
		sendAll(x)
		s.At++
	case x.Kind == impl.ItmRec && x.V < f.Job.Least:
		s.At++
	case x.Kind == impl.ItmRec && room(x.Key%f.Job.Tasks):
		send(x.Key%f.Job.Tasks, x)
		s.At++
	}
}

// taskTurn says what EvTask turns.
func taskTurn(f *impl.FloFlow, at, in int) {
	if at < 0 || at >= len(f.Tasks) {
		return
	}
	s, pend, safeN := &f.Sinks[at], f.Tasks[at].Pend, f.Ckp.Safe.N
	count := len(s.Ready)
	isLastSafe := count > 0 && s.Ready[count-1].N <= safeN
	isLastOpen := count > 0 && s.Ready[count-1].N > safeN
	if isLastSafe && count == 12 {
		return
	}
	if isLastOpen && (len(s.Ready[count-1].Panes)+len(pend.Panes) > 1500 || len(s.Ready[count-1].Lates)+len(pend.Lates) > 1500) {
		return
	}
	after, ready, _ := stepped(f.Job, f.Tasks[at], in)
	f.Tasks[at] = after
	for _, x := range ready {
		above := x.N > s.N && !slices.ContainsFunc(s.Ready, func(y impl.TskTxn) bool { return y.N >= x.N })
		switch {
		case above && isLastOpen:
			y := s.Ready[count-1]
			s.Ready[count-1] = txn(x.N, slices.Concat(y.Panes, x.Panes), slices.Concat(y.Lates, x.Lates))
		case above:
			s.Ready = append(s.Ready, x)
		}
		if f.Ckp.Open && f.Ckp.N == x.N {
			f.Ckp.Tsk[at], f.Ckp.Snaps[at] = true, keptOf(after)
		}
	}
}

// keptOf is what is kept of a task as it is, in memory of its own.
func keptOf(k impl.TskTask) impl.CkpSnap {
	s := snap(operator(k.Op.Mark, slices.Clone(k.Op.Rows)...))
	for _, c := range k.Ins {
		s.Marks = append(s.Marks, c.Mark)
	}
	return s
}

// sinkTurn says what EvCommit turns.
func sinkTurn(f *impl.FloFlow, at int) {
	if at < 0 || at >= len(f.Sinks) {
		return
	}
	s := &f.Sinks[at]
	for len(s.Ready) > 0 {
		x := s.Ready[0]
		panes, lates := slices.Concat(s.Panes, x.Panes), slices.Concat(s.Lates, x.Lates)
		if x.N > f.Ckp.Safe.N || len(panes) > 1500 || len(lates) > 1500 {
			break
		}
		*s = impl.FloSink{Ready: slices.Clone(s.Ready[1:]), N: x.N, Panes: panes, Lates: lates}
	}
}

// crashTurn says what EvCrash turns.
func crashTurn(f *impl.FloFlow) {
	f.Ckp = dropped(f.Job, f.Ckp)
	for i := range f.Srcs {
		f.Srcs[i] = impl.FloSrc{At: f.Ckp.Safe.At[i], Wall: f.Ckp.N}
	}
	for i, s := range snapsCopy(f.Ckp.Safe.Snaps) {
		f.Tasks[i] = impl.TskTask{Op: s.Op, Wall: f.Ckp.N}
		for _, m := range s.Marks {
			f.Tasks[i].Ins = append(f.Tasks[i].Ins, in(m))
		}
		f.Sinks[i].Ready = slices.DeleteFunc(f.Sinks[i].Ready, func(x impl.TskTxn) bool { return x.N > f.Ckp.Safe.N })
	}
}

// checkHappens holds FloStep against the document's words.
func checkHappens(t *testing.T, f impl.FloFlow, e impl.EvEvent) impl.FloFlow {
	t.Helper()
	got := impl.FloStep(f, e)
	if want := happened(f, e); !sameFlow(got, want) {
		t.Fatalf("%+v of %+v: %+v, not %+v", e, f, got, want)
	}
	return got
}

// checkAll lets events happen one behind the other.
func checkAll(t *testing.T, f impl.FloFlow, events ...impl.EvEvent) impl.FloFlow {
	t.Helper()
	for _, e := range events {
		f = checkHappens(t, f, e)
	}
	return f
}

// checkStays asks whether an event turns nothing.
func checkStays(t *testing.T, name string, f impl.FloFlow, e impl.EvEvent) {
	t.Helper()
	if got := checkHappens(t, f, e); !sameFlow(got, f) || isNoFlow(got) {
		t.Fatalf("%s: %+v of %+v: %+v", name, e, f, got)
	}
}

// checkNoFlow asks whether a flow is not ok, and nothing at any event.
func checkNoFlow(t *testing.T, name string, f impl.FloFlow) {
	t.Helper()
	if impl.FloOk(f) || isFlow(f) {
		t.Errorf("%s: %+v is ok", name, f)
	}
	for _, e := range allEvents(impl.JobJob{Sources: 3, Tasks: 2}) {
		if got := checkHappens(t, f, e); !isNoFlow(got) {
			t.Errorf("%s: %+v of %+v: %+v", name, e, f, got)
		}
	}
}

// logsFor is a log for each source of a job, each of at most so many items.
func logsFor(r *rand.Rand, j impl.JobJob, most int) [][]impl.ItmItem {
	var logs [][]impl.ItmItem
	for range j.Sources {
		logs = append(logs, aLog(r, most))
	}
	return logs
}

// anyEvent is an event, more often than not one that fits.
func anyEvent(r *rand.Rand, j impl.JobJob) impl.EvEvent {
	switch n := r.Intn(100); {
	case n < 34:
		return atSource(r.Intn(j.Sources))
	case n < 72:
		return atTask(r.Intn(j.Tasks), r.Intn(j.Sources))
	case n < 79:
		return toAsk
	case n < 87:
		return toSave
	case n < 89:
		return toDrop
	case n < 95:
		return atSink(r.Intn(j.Tasks))
	case n < 96:
		return toCrash
	case n < 99:
		return impl.EvEvent{Kind: r.Intn(10) - 1, At: r.Intn(5) - 1, In: r.Intn(5) - 1}
	}
	return impl.EvEvent{Kind: pick(r, edges), At: pick(r, edges), In: pick(r, edges)}
}

// anyEventOf is an event of each kind as often as of any other.
func anyEventOf(r *rand.Rand, j impl.JobJob) impl.EvEvent {
	e := impl.EvEvent{Kind: 1 + r.Intn(7), At: r.Intn(3), In: r.Intn(j.Sources)}
	if e.Kind == impl.EvTask && r.Intn(3) > 0 {
		e.At = r.Intn(j.Tasks)
	}
	return e
}

// anySink is a sink that is ok, with transactions that are ready around a number that is safe.
func anySink(r *rand.Rand, safeN int) impl.FloSink {
	written := anyTold(r, 3)
	s := impl.FloSink{N: max(safeN-r.Intn(5), 0), Panes: written.Panes, Lates: written.Lates}
	n, count := s.N, r.Intn(5)
	if r.Intn(9) == 0 {
		count, s.N = 11+r.Intn(2), max(safeN-12, 0)
		n = s.N
	}
	for range count {
		if n++; r.Intn(4) == 0 {
			n++
		}
		if n > 900 {
			break
		}
		x := anyTold(r, 3)
		x.N = n
		s.Ready = append(s.Ready, x)
	}
	return s
}

// anyFlow is a flow that is ok, not always one that events lead to from the beginning on.
func anyFlow(r *rand.Rand, j impl.JobJob) impl.FloFlow {
	f := impl.FloFlow{Job: j, Logs: logsFor(r, j, 6), Ckp: anyCkp(r, j)}
	for i, log := range f.Logs {
		f.Srcs = append(f.Srcs, impl.FloSrc{At: r.Intn(len(log) + 1), Wall: max(f.Ckp.N-r.Intn(3), 0)})
		f.Ckp.Safe.At[i] = min(f.Ckp.Safe.At[i], len(log)-r.Intn(2))
	}
	for range j.Tasks {
		k := anyTask(r, j)
		k.Wall = max(f.Ckp.N-r.Intn(3), 0)
		if last := r.Intn(j.Sources); r.Intn(2) == 0 && f.Ckp.N > 0 {
			k.Wall = f.Ckp.N
			for i := range k.Ins {
				k.Ins[i].Held = i != last
			}
			k.Ins[last].Queue = append([]impl.ItmItem{wall(f.Ckp.N)}, k.Ins[last].Queue...)[:max(len(k.Ins[last].Queue), 1)]
		}
		f.Tasks = append(f.Tasks, k)
		f.Sinks = append(f.Sinks, anySink(r, f.Ckp.Safe.N))
	}
	return f
}

// brokenFlow is a flow with one thing turned, so that more often than not it is not ok.
func brokenFlow(r *rand.Rand, f impl.FloFlow) impl.FloFlow {
	return flowBy(f, func(f *impl.FloFlow) {
		src, task := r.Intn(len(f.Srcs)), r.Intn(len(f.Tasks))
		s := &f.Sinks[task]
		turns := []func(){
			func() { f.Ckp = brokenCkp(r, f.Ckp) },
			func() { f.Tasks[task] = brokenTask(r, f.Tasks[task]) },
			func() { f.Tasks[task].Wall = f.Ckp.N + r.Intn(2) },
			func() { f.Job = anyNumbersJob(r) },
			func() { f.Logs[src] = anyItems(r, 5) },
			func() { f.Logs[src] = append(f.Logs[src], mark(1000)) },
			func() { f.Logs = append(f.Logs, f.Logs[src])[r.Intn(2)*2:] },
			func() { f.Srcs = append(f.Srcs, impl.FloSrc{})[r.Intn(2)*2:] },
			func() { f.Srcs[src].At = pick(r, edges) },
			func() { f.Srcs[src].At = len(f.Logs[src]) + r.Intn(2) },
			func() { f.Srcs[src].Wall = pick(r, edges) },
			func() { f.Srcs[src].Wall = f.Ckp.N + r.Intn(2) },
			func() { f.Ckp.Safe.At[src] = len(f.Logs[src]) + r.Intn(2) },
			func() { f.Tasks = append(f.Tasks, f.Tasks[task])[r.Intn(2)*2:] },
			func() { f.Sinks = append(f.Sinks, impl.FloSink{})[r.Intn(2)*2:] },
			func() { s.N = pick(r, edges) },
			func() { s.N += r.Intn(5) - 2 },
			func() { s.Ready = append(s.Ready, txn(pick(r, edges), nil, nil)) },
			func() { s.Ready = append(s.Ready, txn(s.N+r.Intn(4), anyPanes(r, 2), nil)) },
			func() { s.Panes = append(s.Panes, anyPane(r)) },
			func() { s.Lates = append(s.Lates, lat(anyItem(r), r.Intn(30), r.Intn(60))) },
			func() { slices.Reverse(s.Ready) },
		}
		pick(r, turns)()
	})
}

// someLogs is a log for each source of a job, with records of every key, late ones, and such as are below Least.
func someLogs(j impl.JobJob) [][]impl.ItmItem {
	return [][]impl.ItmItem{
		{rec(1, 0, 4), rec(2, 1, j.Least), mark(7), rec(6, 2, 9), rec(3, 3, 9), rec(9, 0, -9), mark(20), rec(8, 1, 5), mark(1000)},
		{rec(5, 3, 9), mark(12), rec(14, 0, 7), rec(1, 2, 8), mark(1000)},
		{mark(30), rec(33, 1, 6), mark(1000)},
	}[:j.Sources]
}

func TestFloNewIsTheBeginning(t *testing.T) {
	for _, c := range []struct {
		sources, tasks int
		want           impl.FloFlow
	}{
		{1, 1, impl.FloFlow{
			Srcs: []impl.FloSrc{{}}, Tasks: []impl.TskTask{task(0, in(0))}, Sinks: []impl.FloSink{{}}, Ckp: idle(0, safe(0, []int{0}, snap(operator(0), 0))),
		}},
		{3, 1, impl.FloFlow{
			Srcs: []impl.FloSrc{{}, {}, {}}, Tasks: []impl.TskTask{task(0, in(0), in(0), in(0))}, Sinks: []impl.FloSink{{}},
			Ckp: idle(0, safe(0, []int{0, 0, 0}, snap(operator(0), 0, 0, 0))),
		}},
		{2, 2, impl.FloFlow{
			Srcs: []impl.FloSrc{{}, {}}, Tasks: []impl.TskTask{task(0, in(0), in(0)), task(0, in(0), in(0))}, Sinks: []impl.FloSink{{}, {}},
			Ckp: idle(0, safe(0, []int{0, 0}, snap(operator(0), 0, 0), snap(operator(0), 0, 0))),
		}},
	} {
		for _, kind := range eachKind() {
			j := withTasks(kind, c.sources, c.tasks)
			c.want.Job, c.want.Logs = j, someLogs(j)
			if got := impl.FloNew(j, someLogs(j)); !sameFlow(got, c.want) || !impl.FloOk(got) {
				t.Errorf("%+v: %+v", j, got)
			}
		}
	}
}

func TestFloNewOfEachJob(t *testing.T) {
	r := fixed()
	for _, j := range append(sizedJobs(), windowJobs()...) {
		logs := logsFor(r, j, 40)
		f := impl.FloNew(j, logs)
		if !impl.FloOk(f) || f.Job != j || !sameLogs(f.Logs, logs) || !sameCkp(f.Ckp, impl.CkpNew(j)) {
			t.Fatalf("%+v, %v: %+v", j, logs, f)
		}
		for at, k := range f.Tasks {
			if !sameTask(k, impl.TskNew(j, operator(0), make([]int, j.Sources))) || !sameSink(f.Sinks[at], impl.FloSink{}) {
				t.Fatalf("%+v: %+v", j, f)
			}
		}
	}
}

func TestFloNewOfAJobThatIsNotOk(t *testing.T) {
	log := []impl.ItmItem{mark(1000)}
	for _, j := range brokenJobs() {
		for n := range 5 {
			if f := impl.FloNew(j, slices.Repeat([][]impl.ItmItem{log}, n)); !isNoFlow(f) || impl.FloOk(f) {
				t.Fatalf("%+v, %d logs: %+v", j, n, f)
			}
		}
	}
}

func TestFloNewOfTooFewAndTooManyLogs(t *testing.T) {
	for _, j := range sizedJobs() {
		for n := range 6 {
			f := impl.FloNew(j, slices.Repeat([][]impl.ItmItem{{rec(1, 1, 1), mark(1000)}}, n))
			if n != j.Sources && !isNoFlow(f) || n == j.Sources && !impl.FloOk(f) {
				t.Errorf("%+v, %d logs: %+v", j, n, f)
			}
		}
		if f := impl.FloNew(j, nil); !isNoFlow(f) {
			t.Errorf("%+v: %+v", j, f)
		}
		if f := impl.FloNew(j, slices.Repeat([][]impl.ItmItem{{mark(1000)}}, 500)); !isNoFlow(f) {
			t.Errorf("%+v: %+v", j, f)
		}
	}
}

// noLogs is items that are no log, by why they are none.
func noLogs() map[string][]impl.ItmItem {
	return map[string][]impl.ItmItem{
		"nothing": nil, "empty": {}, "no end": {rec(1, 1, 1)}, "a mark, but not of the end": {mark(60)}, "a record behind the end": {mark(1000), rec(1, 1, 1)},
		"the end twice": {mark(1000), mark(1000)}, "a wall": {wall(1), mark(1000)}, "a wall at the end": {mark(5), wall(900)}, "marks that go back": {mark(9), mark(8), mark(1000)},
		"marks that stay": {mark(9), rec(1, 1, 1), mark(9), mark(1000)}, "a record that is not ok": {rec(61, 1, 1), mark(1000)}, "a mark that is not ok": {mark(0), mark(1000)},
		"an item of nothing": {{}, mark(1000)}, "one item too many": append(times(40, rec(1, 1, 1)), mark(1000)), "many too many": append(times(4000, rec(1, 1, 1)), mark(1000)),
		"an end with a key": {{Kind: impl.ItmMark, T: 1000, Key: 1}}, "an end as great as can be": {mark(math.MaxInt)},
	}
}

func TestFloNewOfALogThatIsNone(t *testing.T) {
	for why, log := range noLogs() {
		for _, j := range sizedJobs() {
			for at := range j.Sources {
				logs := someLogs(j)
				logs[at] = log
				if f := impl.FloNew(j, logs); !isNoFlow(f) {
					t.Errorf("%s, at %d of %+v: %+v", why, at, j, f)
				}
			}
		}
	}
}

func TestFloNewOfTheShortestAndTheLongestLog(t *testing.T) {
	for _, j := range sizedJobs() {
		for _, log := range [][]impl.ItmItem{{mark(1000)}, append(times(39, rec(60, 3, 9)), mark(1000))} {
			logs := slices.Repeat([][]impl.ItmItem{log}, j.Sources)
			if f := impl.FloNew(j, logs); !impl.FloOk(f) || !sameLogs(f.Logs, logs) {
				t.Errorf("%+v: %+v", j, f)
			}
		}
	}
}

// plainFlow is a flow of a job with two sources and two tasks on its way: 3 is safe, 5 is under way, and the first source and task have told for it.
func plainFlow(j impl.JobJob) impl.FloFlow {
	f := impl.FloFlow{Job: j, Logs: someLogs(j), Srcs: []impl.FloSrc{{At: 7, Wall: 5}, {At: 2, Wall: 3}}, Ckp: plainOpen()}
	first, last := task(5, in(12, rec(7, 2, 4)), in(20, mark(21))), task(4, in(9, wall(5)), held(9, mark(30), wall(4)))
	first.Op.Rows = []impl.OpRow{told(0, 5, 10, 1, one(4)), untold(2, 10, 15, one(4))}
	last.Pend = txn(0, paneTimes(2), lateTimes(1))
	f.Tasks = []impl.TskTask{first, last}
	f.Sinks = []impl.FloSink{
		{N: 1, Ready: []impl.TskTxn{txn(2, paneTimes(1), nil), txn(3, nil, lateTimes(2)), txn(5, paneTimes(1), lateTimes(1))}, Panes: paneTimes(3), Lates: lateTimes(2)},
		{N: 3},
	}
	return f
}

// flowEdge is a way in which a flow may be turned, and whether it is ok behind it.
type flowEdge struct {
	name string
	ok   bool
	turn func(*impl.FloFlow)
}

// checkFlowEdges turns the plain flow, for a job of each Kind.
func checkFlowEdges(t *testing.T, edges []flowEdge) {
	t.Helper()
	for _, j := range eachKind() {
		for _, e := range edges {
			f := flowBy(plainFlow(j), e.turn)
			if got := impl.FloOk(f); got != e.ok || isFlow(f) != e.ok {
				t.Errorf("%s, %+v: %v", e.name, j, got)
			}
			if !e.ok {
				checkNoFlow(t, e.name, f)
				continue
			}
			for _, ev := range allEvents(j) {
				checkHappens(t, f, ev)
			}
			for _, kind := range noKinds() {
				checkStays(t, e.name, f, impl.EvEvent{Kind: kind})
			}
		}
	}
}

// noKinds is numbers that are no kind of event.
func noKinds() []int {
	return slices.DeleteFunc(append([]int{8, 9, 10}, edges...), func(n int) bool { return n >= 1 && n <= 7 })
}

func TestFloOkOfJobAndCheckpoints(t *testing.T) {
	checkFlowEdges(t, []flowEdge{
		{"as it is", true, func(f *impl.FloFlow) {}},
		{"nothing", false, func(f *impl.FloFlow) { *f = impl.FloFlow{} }},
		{"a job of nothing", false, func(f *impl.FloFlow) { f.Job = impl.JobJob{} }},
		{"a job that is not ok", false, func(f *impl.FloFlow) { f.Job.Room = 5 }},
		{"a job of one source", false, func(f *impl.FloFlow) { f.Job.Sources = 1 }},
		{"a job of three sources", false, func(f *impl.FloFlow) { f.Job.Sources = 3 }},
		{"a job of one task", false, func(f *impl.FloFlow) { f.Job.Tasks = 1 }},
		{"checkpoints of nothing", false, func(f *impl.FloFlow) { f.Ckp = impl.CkpState{} }},
		{"N below walls that were sent", false, func(f *impl.FloFlow) { f.Ckp.N = 4 }},
		{"N of that which is safe, but under way", false, func(f *impl.FloFlow) { f.Ckp.N, f.Srcs[0].Wall, f.Tasks[0].Wall, f.Tasks[1].Wall = 3, 3, 3, 3 }},
		{"not under way, and told", false, func(f *impl.FloFlow) { f.Ckp.Open = false }},
		{"not under way", true, func(f *impl.FloFlow) { f.Ckp = idle(5, f.Ckp.Safe) }},
		{"N 900", true, func(f *impl.FloFlow) { f.Ckp.N = 900 }},
		{"N 901", false, func(f *impl.FloFlow) { f.Ckp.N = 901 }},
		{"told, and nothing kept", false, func(f *impl.FloFlow) { f.Ckp.Snaps[0] = impl.CkpSnap{} }},
		{"kept, and not told", false, func(f *impl.FloFlow) { f.Ckp.Tsk[0] = false }},
		{"a source less in them", false, func(f *impl.FloFlow) { f.Ckp.Src = f.Ckp.Src[:1] }},
		{"a task more in them", false, func(f *impl.FloFlow) { f.Ckp.Tsk = append(f.Ckp.Tsk, false) }},
		{"Safe.At less", false, func(f *impl.FloFlow) { f.Ckp.Safe.At = f.Ckp.Safe.At[:1] }},
		{"all have told", true, func(f *impl.FloFlow) { f.Ckp = allTell(f.Ckp) }},
		{"Src beyond the log, which no word bars", true, func(f *impl.FloFlow) { f.Ckp.Src[0] = 40 }},
		{"Src 41", false, func(f *impl.FloFlow) { f.Ckp.Src[0] = 41 }},
	})
}

func TestFloOkOfSources(t *testing.T) {
	edges := []flowEdge{
		{"no logs", false, func(f *impl.FloFlow) { f.Logs = nil }},
		{"a log less", false, func(f *impl.FloFlow) { f.Logs = f.Logs[:1] }},
		{"a log more", false, func(f *impl.FloFlow) { f.Logs = append(f.Logs, f.Logs[0]) }},
		{"many logs more", false, func(f *impl.FloFlow) { f.Logs = slices.Repeat(f.Logs, 500) }},
		{"no sources", false, func(f *impl.FloFlow) { f.Srcs = nil }},
		{"a source less", false, func(f *impl.FloFlow) { f.Srcs = f.Srcs[:1] }},
		{"a source more", false, func(f *impl.FloFlow) { f.Srcs = append(f.Srcs, impl.FloSrc{}) }},
		{"many sources more", false, func(f *impl.FloFlow) { f.Srcs = slices.Repeat(f.Srcs, 500) }},
		{"a log and a source less", false, func(f *impl.FloFlow) { f.Logs, f.Srcs = f.Logs[:1], f.Srcs[:1] }},
	}
	for at, long := range []int{9, 5} {
		for why, log := range noLogs() {
			edges = append(edges, flowEdge{why, false, func(f *impl.FloFlow) {
				f.Logs[at], f.Srcs[at].At, f.Ckp.Safe.At[at] = log, 0, 0
			}})
		}
		for n, ok := range map[int]bool{math.MinInt: false, -1: false, 0: true, 1: true, long - 1: true, long: true, long + 1: false, 40: false, math.MaxInt: false} {
			edges = append(edges,
				flowEdge{"At", ok, func(f *impl.FloFlow) { f.Srcs[at].At = n }},
				flowEdge{"Safe.At", ok, func(f *impl.FloFlow) { f.Ckp.Safe.At[at] = n }},
			)
		}
		for n, ok := range map[int]bool{math.MinInt: false, -1: false, 0: true, 4: true, 5: true, 6: false, 900: false, math.MaxInt: false} {
			edges = append(edges, flowEdge{"a wall", ok, func(f *impl.FloFlow) { f.Srcs[at].Wall = n }})
		}
		edges = append(edges, flowEdge{"a wall of the last number of all", true, func(f *impl.FloFlow) { f.Ckp.N, f.Srcs[at].Wall = 900, 900 }})
	}
	checkFlowEdges(t, edges)
}

func TestFloOkOfTasks(t *testing.T) {
	edges := []flowEdge{
		{"no tasks", false, func(f *impl.FloFlow) { f.Tasks = nil }},
		{"a task less", false, func(f *impl.FloFlow) { f.Tasks = f.Tasks[:1] }},
		{"a task more", false, func(f *impl.FloFlow) { f.Tasks = append(f.Tasks, f.Tasks[0]) }},
		{"many tasks more", false, func(f *impl.FloFlow) { f.Tasks = slices.Repeat(f.Tasks, 500) }},
		{"a task and a sink less", false, func(f *impl.FloFlow) { f.Tasks, f.Sinks = f.Tasks[:1], f.Sinks[:1] }},
		{"a task and a sink more", false, func(f *impl.FloFlow) { f.Tasks, f.Sinks = append(f.Tasks, f.Tasks[0]), append(f.Sinks, impl.FloSink{}) }},
	}
	for at := range 2 {
		for n, ok := range map[int]bool{math.MinInt: false, -1: false, 0: true, 5: true, 6: false, 900: false, math.MaxInt: false} {
			edges = append(edges, flowEdge{"a wall", ok, func(f *impl.FloFlow) { f.Tasks[at].Wall = n }})
		}
		edges = append(edges, []flowEdge{
			{"a wall of the last number of all", true, func(f *impl.FloFlow) { f.Ckp.N, f.Tasks[at].Wall = 900, 900 }},
			{"a task of nothing", false, func(f *impl.FloFlow) { f.Tasks[at] = impl.TskTask{} }},
			{"a new task", true, func(f *impl.FloFlow) { f.Tasks[at] = task(0, in(0), in(0)) }},
			{"a task with a channel less", false, func(f *impl.FloFlow) { f.Tasks[at].Ins = f.Tasks[at].Ins[:1] }},
			{"a task with all channels held", false, func(f *impl.FloFlow) { f.Tasks[at].Ins[0].Held, f.Tasks[at].Ins[1].Held = true, true }},
			{"a task with an item too many", false, func(f *impl.FloFlow) { f.Tasks[at].Ins[0].Queue = times(4, wall(1)) }},
			{"a task with as many items as may be", true, func(f *impl.FloFlow) { f.Tasks[at].Ins[0].Queue = times(3, wall(1)) }},
			{"a task with an item that is not ok", false, func(f *impl.FloFlow) { f.Tasks[at].Ins[1].Queue = times(1, mark(0)) }},
			{"a task whose Mark is not the least", false, func(f *impl.FloFlow) { f.Tasks[at].Op.Mark-- }},
			{"a task that has told with a number", false, func(f *impl.FloFlow) { f.Tasks[at].Pend.N = 1 }},
			{"a task that has told what is not ok", false, func(f *impl.FloFlow) { f.Tasks[at].Pend.Panes = make([]impl.PanPane, 1) }},
			{"a wall on its way that was never asked for, which no word bars", true, func(f *impl.FloFlow) { f.Tasks[at].Ins[0].Queue = times(1, wall(900)) }},
			{"a record on its way to the other task, which no word bars", true, func(f *impl.FloFlow) {
				f.Tasks[at].Ins[0].Queue = []impl.ItmItem{rec(40, 0, 1), rec(40, 1, 1), rec(40, 2, -9)}
			}},
		}...)
	}
	checkFlowEdges(t, edges)
}

// readyTimes is so many transactions, one number behind the other, from one on.
func readyTimes(from, n int) []impl.TskTxn {
	var all []impl.TskTxn
	for i := range n {
		all = append(all, txn(from+i, nil, nil))
	}
	return all
}

func TestFloOkOfSinks(t *testing.T) {
	edges := []flowEdge{
		{"no sinks", false, func(f *impl.FloFlow) { f.Sinks = nil }},
		{"a sink less", false, func(f *impl.FloFlow) { f.Sinks = f.Sinks[:1] }},
		{"a sink more", false, func(f *impl.FloFlow) { f.Sinks = append(f.Sinks, impl.FloSink{}) }},
		{"many sinks more", false, func(f *impl.FloFlow) { f.Sinks = slices.Repeat(f.Sinks, 500) }},
		{"sinks of nothing", true, func(f *impl.FloFlow) { f.Sinks = make([]impl.FloSink, 2) }},
	}
	for at := range 2 {
		edge := func(name string, ok bool, turn func(*impl.FloSink)) {
			edges = append(edges, flowEdge{name, ok, func(f *impl.FloFlow) { turn(&f.Sinks[at]) }})
		}
		for n, ok := range map[int]bool{math.MinInt: false, -1: false, 0: true, 3: true, 899: true, 900: true, 901: false, math.MaxInt: false} {
			edge("N, with nothing ready", ok, func(s *impl.FloSink) { s.N, s.Ready = n, nil })
		}
		for n, ok := range map[int]bool{math.MinInt: false, -1: false, 0: true, 3: true, 4: true, 5: false, 6: false, 900: false} {
			edge("N, with 5 and 6 ready", ok, func(s *impl.FloSink) { s.N, s.Ready = n, readyTimes(5, 2) })
		}
		edge("11 ready", true, func(s *impl.FloSink) { s.N, s.Ready = 0, readyTimes(1, 11) })
		edge("12 ready", true, func(s *impl.FloSink) { s.N, s.Ready = 0, readyTimes(1, 12) })
		edge("13 ready", false, func(s *impl.FloSink) { s.N, s.Ready = 0, readyTimes(1, 13) })
		edge("as many ready as there are numbers", false, func(s *impl.FloSink) { s.N, s.Ready = 0, readyTimes(1, 900) })
		edge("the last numbers of all", true, func(s *impl.FloSink) { s.N, s.Ready = 898, readyTimes(899, 2) })
		edge("one number more", false, func(s *impl.FloSink) { s.N, s.Ready = 898, readyTimes(899, 3) })
		edge("a number as great as can be", false, func(s *impl.FloSink) { s.N, s.Ready = 0, readyTimes(math.MaxInt, 1) })
		edge("a number 0", false, func(s *impl.FloSink) { s.N, s.Ready = 0, readyTimes(0, 1) })
		edge("a number below 0", false, func(s *impl.FloSink) { s.N, s.Ready = 0, readyTimes(-1, 1) })
		edge("numbers that stay", false, func(s *impl.FloSink) { s.N, s.Ready = 1, append(readyTimes(2, 2), readyTimes(3, 2)...) })
		edge("numbers that go back", false, func(s *impl.FloSink) { s.N, s.Ready = 1, append(readyTimes(5, 2), readyTimes(3, 1)...) })
		edge("numbers that go back behind the first", false, func(s *impl.FloSink) {
			s.N, s.Ready = 1, []impl.TskTxn{txn(7, nil, nil), txn(3, nil, nil), txn(9, nil, nil)}
		})
		edge("numbers with gaps", true, func(s *impl.FloSink) {
			s.N, s.Ready = 1, []impl.TskTxn{txn(3, nil, nil), txn(7, nil, nil), txn(900, nil, nil)}
		})
		edge("ready, as many panes and pairs as may be", true, func(s *impl.FloSink) { s.Ready = []impl.TskTxn{txn(4, paneTimes(1500), lateTimes(1500))} })
		edge("ready, one pane more", false, func(s *impl.FloSink) { s.Ready = []impl.TskTxn{txn(4, paneTimes(1501), nil)} })
		edge("ready, one pair more", false, func(s *impl.FloSink) { s.Ready = []impl.TskTxn{txn(4, nil, lateTimes(1501))} })
		edge("ready, a pane that is not ok", false, func(s *impl.FloSink) { s.Ready = []impl.TskTxn{txn(4, nil, nil), txn(5, make([]impl.PanPane, 1), nil)} })
		edge("ready, a pair that is not ok", false, func(s *impl.FloSink) {
			s.Ready = []impl.TskTxn{txn(4, nil, append(lateTimes(2), impl.LatPair{})), txn(5, nil, nil)}
		})
		edge("1500 panes", true, func(s *impl.FloSink) { s.Panes = paneTimes(1500) })
		edge("1501 panes", false, func(s *impl.FloSink) { s.Panes = paneTimes(1501) })
		edge("1500 pairs", true, func(s *impl.FloSink) { s.Lates = lateTimes(1500) })
		edge("1501 pairs", false, func(s *impl.FloSink) { s.Lates = lateTimes(1501) })
		edge("1500 of both", true, func(s *impl.FloSink) { s.Panes, s.Lates = paneTimes(1500), lateTimes(1500) })
		edge("the last pane of 1500 not ok", false, func(s *impl.FloSink) { s.Panes = append(paneTimes(1499), impl.PanPane{}) })
		edge("a pane that is not ok", false, func(s *impl.FloSink) { s.Panes = []impl.PanPane{late(1, 5, 10, 0, one(4))} })
		edge("panes that are not sound, which no word bars", true, func(s *impl.FloSink) { s.Panes = []impl.PanPane{gone(1, 5, 10, 7), late(1, 5, 10, 7, one(4))} })
		edge("a pair that is not ok", false, func(s *impl.FloSink) { s.Lates = append(lateTimes(3), lat(rec(10, 1, 4), 5, 10)) })
		edge("the last pair of 1500 not ok", false, func(s *impl.FloSink) { s.Lates = append(lateTimes(1499), impl.LatPair{}) })
	}
	checkFlowEdges(t, edges)
}

func TestFloOkOfAny(t *testing.T) {
	r := fixed()
	fine, broken := 0, 0
	for range 8000 {
		f := anyFlow(r, anyJob(r))
		if !impl.FloOk(f) || !isFlow(f) {
			t.Fatalf("%+v is not ok", f)
		}
		b := brokenFlow(r, f)
		if got := impl.FloOk(b); got != isFlow(b) {
			t.Fatalf("%+v: %v", b, got)
		} else if got {
			fine++
		} else {
			broken++
			if got := impl.FloStep(b, anyEvent(r, f.Job)); !isNoFlow(got) {
				t.Fatalf("%+v: %+v", b, got)
			}
		}
	}
	if fine < 500 || broken < 500 {
		t.Fatalf("%d are ok, %d are not", fine, broken)
	}
}

// Each kind of event, in flows that are ok, whether or not events lead to them.
func TestFloStepOfAny(t *testing.T) {
	r := fixed()
	turns := map[int]int{}
	told, joined, gone := 0, 0, 0
	for range 40000 {
		f := anyFlow(r, anyJob(r))
		e := anyEventOf(r, f.Job)
		g := checkHappens(t, f, e)
		if !sameFlow(f, g) {
			turns[e.Kind]++
		}
		if e.Kind != impl.EvTask || e.At >= f.Job.Tasks {
			continue
		}
		if !slices.Equal(f.Ckp.Tsk, g.Ckp.Tsk) {
			told++
		}
		before, after := f.Sinks[e.At].Ready, g.Sinks[e.At].Ready
		if len(before) == len(after) && len(before) > 0 && !sameTxn(before[len(before)-1], after[len(after)-1]) {
			joined++
		}
		if len(before) == len(after) && len(before) > 0 && len(f.Tasks[e.At].Pend.Panes) > 0 && len(g.Tasks[e.At].Pend.Panes) == 0 && sameSink(f.Sinks[e.At], g.Sinks[e.At]) {
			gone++
		}
	}
	for kind := 1; kind <= 7; kind++ {
		if turns[kind] < 400 {
			t.Errorf("kind %d has turned something %d times", kind, turns[kind])
		}
	}
	if told < 100 || joined < 100 || gone < 50 {
		t.Errorf("%d have told, %d were joined, %d came to nothing", told, joined, gone)
	}
}
