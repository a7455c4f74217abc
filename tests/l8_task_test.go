package tests

import (
	"math"
	"math/rand"
	"slices"
	"testing"

	"loop.example/freshet/impl"
)

func TestNumbersOfTasks(t *testing.T) {
	if impl.TskMaxTxn != 12 {
		t.Fatal(impl.TskMaxTxn)
	}
}

// in is a channel, with the last mark that came.
func in(mark int, queue ...impl.ItmItem) impl.TskIn {
	return impl.TskIn{Mark: mark, Queue: queue}
}

// held is a channel at a wall.
func held(mark int, queue ...impl.ItmItem) impl.TskIn {
	return impl.TskIn{Mark: mark, Queue: queue, Held: true}
}

// task is a task with nothing open and nothing told: the operator's Mark is the least of the channels'.
func task(wall int, ins ...impl.TskIn) impl.TskTask {
	return impl.TskTask{Ins: ins, Wall: wall, Op: operator(leastMark(ins))}
}

func leastMark(ins []impl.TskIn) int {
	least := 1000
	for _, c := range ins {
		least = min(least, c.Mark)
	}
	return least
}

func txn(n int, panes []impl.PanPane, lates []impl.LatPair) impl.TskTxn {
	return impl.TskTxn{N: n, Panes: panes, Lates: lates}
}

// withSources is a job with so many sources, and so much room in their channels.
func withSources(j impl.JobJob, sources, room int) impl.JobJob {
	j.Sources, j.Room = sources, room
	return j
}

func sameIn(a, b impl.TskIn) bool {
	return slices.Equal(a.Queue, b.Queue) && a.Mark == b.Mark && a.Held == b.Held
}

func sameTxn(a, b impl.TskTxn) bool {
	return a.N == b.N && slices.Equal(a.Panes, b.Panes) && slices.Equal(a.Lates, b.Lates)
}

func sameTask(a, b impl.TskTask) bool {
	return slices.EqualFunc(a.Ins, b.Ins, sameIn) && sameOperator(a.Op, b.Op) && a.Wall == b.Wall && sameTxn(a.Pend, b.Pend)
}

func isNothing(k impl.TskTask) bool {
	return sameTask(k, impl.TskTask{})
}

// copyOf is a task in memory of its own.
func copyOf(k impl.TskTask) impl.TskTask {
	c := k
	c.Ins = slices.Clone(k.Ins)
	for i := range c.Ins {
		c.Ins[i].Queue = slices.Clone(k.Ins[i].Queue)
	}
	c.Op.Rows = slices.Clone(k.Op.Rows)
	c.Pend = txn(k.Pend.N, slices.Clone(k.Pend.Panes), slices.Clone(k.Pend.Lates))
	return c
}

// turnedBy is a copy of a task with something else in it.
func turnedBy(k impl.TskTask, turn func(*impl.TskTask)) impl.TskTask {
	c := copyOf(k)
	turn(&c)
	return c
}

// isPair says the same as LatOk, from the document's words.
func isPair(l impl.LatPair) bool {
	return l.Rec.Kind == impl.ItmRec && impl.ItmOk(l.Rec) && isWindow(l.Win) && has(l.Win, l.Rec.T)
}

// isTxn says whether a transaction is ok, from the document's words.
func isTxn(x impl.TskTxn) bool {
	if x.N < 0 || x.N > 900 || len(x.Panes) > 1500 || len(x.Lates) > 1500 {
		return false
	}
	for _, p := range x.Panes {
		if !isPane(p) {
			return false
		}
	}
	for _, l := range x.Lates {
		if !isPair(l) {
			return false
		}
	}
	return true
}

// isTask says the same as TskOk, from the document's words.
func isTask(j impl.JobJob, k impl.TskTask) bool {
	if !isOperator(j, k.Op) || len(k.Ins) != j.Sources || k.Wall < 0 || k.Wall > 900 || k.Pend.N != 0 || !isTxn(k.Pend) {
		return false
	}
	allHeld, leastIs := true, false
	for _, c := range k.Ins {
		if len(c.Queue) > j.Room || c.Mark < k.Op.Mark || c.Mark > 1000 {
			return false
		}
		for _, x := range c.Queue {
			if !impl.ItmOk(x) {
				return false
			}
		}
		allHeld = allHeld && c.Held
		leastIs = leastIs || c.Mark == k.Op.Mark
	}
	return !allHeld && leastIs
}

// isThere says whether a task has such a channel.
func isThere(k impl.TskTask, at int) bool {
	return at >= 0 && at < len(k.Ins)
}

// withItem says the same as TskPut, from the document's words.
func withItem(j impl.JobJob, k impl.TskTask, at int, x impl.ItmItem) (impl.TskTask, bool) {
	if !isTask(j, k) || !impl.ItmOk(x) || !isThere(k, at) {
		return impl.TskTask{}, false
	}
	c := copyOf(k)
	if len(c.Ins[at].Queue) >= j.Room {
		return c, false
	}
	c.Ins[at].Queue = append(c.Ins[at].Queue, x)
	return c, true
}

// stepped says the same as TskStep, from the document's words.
func stepped(j impl.JobJob, k impl.TskTask, at int) (impl.TskTask, []impl.TskTxn, bool) {
	if !isTask(j, k) {
		return impl.TskTask{}, nil, false
	}
	c := copyOf(k)
	if !isThere(k, at) || k.Ins[at].Held || len(k.Ins[at].Queue) == 0 || len(k.Op.Rows) > 280 || len(k.Pend.Panes) > 1200 || len(k.Pend.Lates) > 1480 {
		return c, nil, false
	}
	x := c.Ins[at].Queue[0]
	c.Ins[at].Queue = slices.Delete(c.Ins[at].Queue, 0, 1)
	var panes []impl.PanPane
	var lates []impl.LatPair
	switch x.Kind {
	case impl.ItmRec:
		c.Op, panes, lates = taken(j, c.Op, x)
	case impl.ItmMark:
		if x.T > c.Ins[at].Mark {
			c.Ins[at].Mark = x.T
		}
		c.Op, panes = marked(j, c.Op, leastMark(c.Ins))
	case impl.ItmWall:
		ready := walled(&c, at, x.N)
		return c, ready, true
	}
	c.Pend.Panes, c.Pend.Lates = slices.Concat(c.Pend.Panes, panes), slices.Concat(c.Pend.Lates, lates)
	return c, nil, true
}

// walled lets a wall come by a channel.
func walled(c *impl.TskTask, at, n int) []impl.TskTxn {
	if n < c.Wall {
		return nil
	}
	for i := range c.Ins {
		c.Ins[i].Held = i == at || c.Ins[i].Held && n == c.Wall
	}
	c.Wall = n
	for _, o := range c.Ins {
		if !o.Held {
			return nil
		}
	}
	for i := range c.Ins {
		c.Ins[i].Held = false
	}
	ready := txn(n, c.Pend.Panes, c.Pend.Lates)
	c.Pend = impl.TskTxn{}
	return []impl.TskTxn{ready}
}

// checkPutIn holds TskPut and TskRoom against the document's words.
func checkPutIn(t *testing.T, j impl.JobJob, k impl.TskTask, at int, x impl.ItmItem) (impl.TskTask, bool) {
	t.Helper()
	after, put := impl.TskPut(j, k, at, x)
	want, wantPut := withItem(j, k, at, x)
	if !sameTask(after, want) || put != wantPut {
		t.Fatalf("%+v, %+v, %v into %d: %+v %v, not %+v %v", j, k, x, at, after, put, want, wantPut)
	}
	if room := impl.TskRoom(j, k, at); room != (isTask(j, k) && isThere(k, at) && len(k.Ins[at].Queue) < j.Room) || impl.ItmOk(x) && room != put {
		t.Fatalf("%+v, %+v, %v into %d: room %v, put %v", j, k, x, at, room, put)
	}
	return after, put
}

// checkStep holds TskStep against the document's words.
func checkStep(t *testing.T, j impl.JobJob, k impl.TskTask, at int) (impl.TskTask, []impl.TskTxn, bool) {
	t.Helper()
	after, ready, took := impl.TskStep(j, k, at)
	want, wantReady, wantTook := stepped(j, k, at)
	if !sameTask(after, want) || !slices.EqualFunc(ready, wantReady, sameTxn) || took != wantTook {
		t.Fatalf("%+v, %+v, step of %d: %+v %v %v, not %+v %v %v", j, k, at, after, ready, took, want, wantReady, wantTook)
	}
	return after, ready, took
}

// checkNotOk holds all functions of a task that is not ok against their fixed answers.
func checkNotOk(t *testing.T, name string, j impl.JobJob, k impl.TskTask) {
	t.Helper()
	if impl.TskOk(j, k) || isTask(j, k) {
		t.Errorf("%s, %+v: %+v is ok", name, j, k)
	}
	for at := -1; at <= 3; at++ {
		for _, x := range []impl.ItmItem{rec(7, 1, 4), mark(9), wall(3)} {
			if after, put := checkPutIn(t, j, k, at, x); put || !isNothing(after) {
				t.Errorf("%s, %v into %d: %+v %v", name, x, at, after, put)
			}
		}
		if after, ready, took := checkStep(t, j, k, at); took || len(ready) != 0 || !isNothing(after) {
			t.Errorf("%s, step of %d: %+v %v %v", name, at, after, ready, took)
		}
		if impl.TskRoom(j, k, at) {
			t.Errorf("%s: room in %d", name, at)
		}
	}
}

// nearItem is an item that is ok, around a mark and a wall.
func nearItem(r *rand.Rand, near, wallNear int) impl.ItmItem {
	switch r.Intn(5) {
	case 0:
		return wall(min(max(wallNear-1+r.Intn(3), 1), 900))
	case 1, 2:
		if r.Intn(12) == 0 {
			return mark(1000)
		}
		return mark(min(max(near-4+r.Intn(16), 1), 60))
	}
	return nearRec(r, near)
}

// anyTold is some panes and pairs that are ok.
func anyTold(r *rand.Rand, most int) impl.TskTxn {
	lates := several(r, most, func(r *rand.Rand) impl.LatPair {
		x := nearRec(r, 20)
		return lat(x, max(x.T-r.Intn(4), 0), x.T+1+r.Intn(4))
	})
	return txn(0, soundPanes(r, most), lates)
}

// anyTask is a task that is ok, with items around its marks and its wall.
func anyTask(r *rand.Rand, j impl.JobJob) impl.TskTask {
	k := impl.TskTask{Op: anyOperator(r, j, 5), Wall: r.Intn(4), Pend: anyTold(r, 4)}
	if r.Intn(9) == 0 {
		k.Wall = pick(r, []int{0, 1, 899, 900})
	}
	least, free := r.Intn(j.Sources), r.Intn(j.Sources)
	for i := range j.Sources {
		c := in(min(k.Op.Mark+r.Intn(12), 1000))
		if i == least {
			c.Mark = k.Op.Mark
		}
		c.Held = i != free && r.Intn(2) == 0
		for range r.Intn(j.Room + 1) {
			c.Queue = append(c.Queue, nearItem(r, k.Op.Mark, k.Wall))
		}
		k.Ins = append(k.Ins, c)
	}
	return k
}

// brokenTask is a task with one thing turned, so that more often than not it is not ok.
func brokenTask(r *rand.Rand, k impl.TskTask) impl.TskTask {
	return turnedBy(k, func(k *impl.TskTask) {
		c := &k.Ins[r.Intn(len(k.Ins))]
		switch r.Intn(12) {
		case 0:
			k.Op = brokenOperator(r, k.Op)
		case 1:
			k.Wall = pick(r, edges)
		case 2:
			c.Mark = pick(r, edges)
		case 3:
			c.Mark += r.Intn(5) - 2
		case 4:
			c.Queue = append(c.Queue, anyItem(r))
		case 5:
			c.Queue = append(c.Queue, times(1+r.Intn(3), wall(2))...)
		case 6:
			k.Ins = append(k.Ins, *c)
		case 7:
			k.Ins = k.Ins[:len(k.Ins)-1]
		case 8:
			for i := range k.Ins {
				k.Ins[i].Held = r.Intn(4) > 0
			}
		case 9:
			k.Pend.N = pick(r, edges)
		case 10:
			k.Pend.Panes = append(k.Pend.Panes, anyPane(r))
		case 11:
			k.Pend.Lates = append(k.Pend.Lates, lat(anyItem(r), r.Intn(30), r.Intn(60)))
		}
	})
}

func TestP31ANewTask(t *testing.T) {
	open := []impl.OpRow{told(0, 5, 10, 2, one(3)), untold(1, 10, 15, one(4)), untold(3, 12, 17, agg(2, 3, 1, 2))}
	for _, j := range eachKind() {
		for _, c := range []struct {
			op    impl.OpState
			marks []int
		}{
			{operator(0), []int{0}}, {operator(0), []int{0, 0}}, {operator(0), []int{0, 0, 0}}, {operator(12, open...), []int{12}}, {operator(12, open...), []int{13, 12}},
			{operator(12, open...), []int{12, 1000}}, {operator(12, open...), []int{60, 12, 12}}, {operator(1000), []int{1000, 1000, 1000}}, {operator(999), []int{1000, 999}},
		} {
			k := impl.TskNew(withSources(j, len(c.marks), 2), c.op, c.marks)
			var ins []impl.TskIn
			for _, m := range c.marks {
				ins = append(ins, in(m))
			}
			if want := (impl.TskTask{Ins: ins, Op: c.op}); !sameTask(k, want) {
				t.Errorf("%+v, %+v, %v: %+v", j, c.op, c.marks, k)
			}
			if !impl.TskOk(withSources(j, len(c.marks), 2), k) {
				t.Errorf("%+v is not ok", k)
			}
		}
	}
}

// A task is made of any marks: only whether it is ok hangs on which of them is the least.
func TestP31MarksThatAreNotTheOperators(t *testing.T) {
	for _, j := range eachKind() {
		for _, marks := range [][]int{{0, 0}, {7, 7}, {9, 20}, {20, 9}, {11, 20}, {20, 11}, {1000, 1000}, {0, 10}, {10, 0}} {
			op := operator(10, told(1, 5, 10, 1, one(3)))
			k := impl.TskNew(j, op, marks)
			if want := (impl.TskTask{Ins: []impl.TskIn{in(marks[0]), in(marks[1])}, Op: op}); !sameTask(k, want) {
				t.Errorf("%+v, %v: %+v", j, marks, k)
			}
			checkNotOk(t, "marks that are not the operator's", j, k)
		}
	}
}

func TestP31HowManyMarks(t *testing.T) {
	for _, j := range eachKind() {
		for sources := 1; sources <= 3; sources++ {
			for n := 0; n <= 5; n++ {
				k := impl.TskNew(withSources(j, sources, 3), operator(0), make([]int, n))
				if n != sources && !isNothing(k) || n == sources && len(k.Ins) != n {
					t.Errorf("%d sources, %d marks: %+v", sources, n, k)
				}
			}
		}
	}
}

func TestP31MarksAtTheEdges(t *testing.T) {
	for _, j := range eachKind() {
		for at := range 3 {
			for _, m := range append([]int{998, 1002}, edges...) {
				marks := []int{5, 6, 7}
				marks[at] = m
				k := impl.TskNew(withSources(j, 3, 1), operator(5), marks)
				if m < 0 || m > 1000 {
					if !isNothing(k) {
						t.Errorf("%v: %+v", marks, k)
					}
				} else if !sameTask(k, impl.TskTask{Ins: []impl.TskIn{in(marks[0]), in(marks[1]), in(marks[2])}, Op: operator(5)}) {
					t.Errorf("%v: %+v", marks, k)
				}
			}
		}
	}
}

func TestP31AnOperatorOrAJobThatIsNotOk(t *testing.T) {
	for _, j := range brokenJobs() {
		for _, marks := range [][]int{nil, {0}, {0, 0}, {0, 0, 0}, {0, 0, 0, 0}} {
			if k := impl.TskNew(j, operator(0), marks); !isNothing(k) {
				t.Fatalf("%+v, %v: %+v", j, marks, k)
			}
		}
	}
	for _, j := range eachKind() {
		for _, op := range []impl.OpState{
			operator(-1), operator(1001), operator(math.MinInt), operator(math.MaxInt), operator(10, untold(1, 5, 10, one(3))), operator(9, told(1, 5, 10, 1, one(3))),
			operator(3, untold(1, 5, 10, one(3)), untold(1, 5, 10, one(3))), operator(3, untold(2, 5, 10, one(3)), untold(1, 5, 10, one(3))), operator(3, manyRows(301)...), operator(0, impl.OpRow{}),
		} {
			if k := impl.TskNew(j, op, []int{3, 3}); !isNothing(k) {
				t.Errorf("%+v, %+v: %+v", j, op, k)
			}
		}
	}
	if j := plainJob(impl.WinSlide, 6, 2); len(impl.TskNew(j, operator(3, manyRows(300)...), []int{3, 4}).Op.Rows) != 300 {
		t.Error("an operator with as many rows as may be")
	}
}

func TestP31OfAnyOperator(t *testing.T) {
	r := fixed()
	for range 8000 {
		j := anyJob(r)
		op := anyOperator(r, j, 5)
		if r.Intn(4) == 0 {
			op = brokenOperator(r, op)
		}
		marks := several(r, 4, func(r *rand.Rand) int { return min(op.Mark+r.Intn(6), 1000) })
		if r.Intn(3) > 0 {
			marks = append(marks, op.Mark, op.Mark+1, op.Mark)[:j.Sources]
		}
		fine := isOperator(j, op) && len(marks) == j.Sources && !slices.ContainsFunc(marks, func(m int) bool { return m < 0 || m > 1000 })
		k := impl.TskNew(j, op, marks)
		var want impl.TskTask
		if fine {
			want.Op = op
			for _, m := range marks {
				want.Ins = append(want.Ins, in(m))
			}
		}
		if !sameTask(k, want) {
			t.Fatalf("%+v, %+v, %v: %+v", j, op, marks, k)
		}
		if got := impl.TskOk(j, k); got != (fine && slices.Min(marks) == op.Mark) {
			t.Fatalf("%+v, %+v, %v: %v", j, op, marks, got)
		}
	}
}

func TestP32EachRoom(t *testing.T) {
	few := []impl.ItmItem{rec(7, 1, 4), mark(9), wall(3), rec(0, 0, -9), mark(1000), wall(900), rec(60, 3, 9), mark(1)}
	for _, k := range eachKind() {
		for sources := 1; sources <= 3; sources++ {
			for room := 1; room <= 4; room++ {
				j := withSources(k, sources, room)
				for at := range sources {
					full := impl.TskNew(j, operator(0), make([]int, sources))
					for n := range room + 3 {
						before := copyOf(full)
						after, put := checkPutIn(t, j, full, at, few[n])
						if put != (n < room) || len(after.Ins[at].Queue) != min(n+1, room) || !slices.Equal(after.Ins[at].Queue, few[:min(n+1, room)]) {
							t.Fatalf("room %d, item %d: %+v %v", room, n, after, put)
						}
						if !put && !sameTask(after, before) {
							t.Fatalf("no room: %+v, not %+v", after, before)
						}
						full = after
					}
					for other := range sources {
						if other != at && !impl.TskRoom(j, full, other) {
							t.Fatalf("no room in %d with %d full", other, at)
						}
					}
				}
			}
		}
	}
}

// What a channel holds, how far it is, and whether it is held is nothing to an item that comes.
func TestP32AnItemComesToAnyChannel(t *testing.T) {
	j := withSources(plainJob(impl.WinFixed, 5, 0), 3, 3)
	k := task(4, in(7, rec(3, 1, 2)), held(5, wall(9), mark(6)), in(1000))
	k.Op.Rows = []impl.OpRow{told(1, 0, 5, 1, one(3))}
	k.Pend = txn(0, []impl.PanPane{timely(1, 0, 5, one(3))}, []impl.LatPair{lat(rec(1, 1, 1), 0, 5)})
	for _, x := range []impl.ItmItem{rec(0, 0, -9), rec(60, 3, 9), mark(1), mark(5), mark(60), mark(1000), wall(1), wall(3), wall(4), wall(5), wall(900)} {
		for at := range 3 {
			want := turnedBy(k, func(k *impl.TskTask) { k.Ins[at].Queue = append(k.Ins[at].Queue, x) })
			if after, put := checkPutIn(t, j, k, at, x); !put || !sameTask(after, want) || !impl.TskOk(j, after) {
				t.Errorf("%v into %d: %+v %v", x, at, after, put)
			}
		}
	}
}

func TestP32ChannelsThatAreNot(t *testing.T) {
	for sources := 1; sources <= 3; sources++ {
		j := withSources(plainJob(impl.WinFixed, 5, 0), sources, 2)
		k := impl.TskNew(j, operator(0), make([]int, sources))
		for _, at := range append([]int{-3, -2, sources, sources + 1}, edges...) {
			after, put := checkPutIn(t, j, k, at, rec(7, 1, 4))
			there := at >= 0 && at < sources
			if put != there || impl.TskRoom(j, k, at) != there || !there && !isNothing(after) {
				t.Errorf("%d sources, channel %d: %+v %v", sources, at, after, put)
			}
		}
	}
}

func TestP32ItemsThatAreNotOk(t *testing.T) {
	j := plainJob(impl.WinFixed, 5, 0)
	free, full := task(0, in(0), in(3)), task(0, in(0, times(3, wall(1))...), in(3, times(3, mark(7))...))
	for _, x := range []impl.ItmItem{
		{}, {Kind: 4}, {Kind: -1}, {Kind: math.MaxInt}, {Kind: math.MinInt, T: 5}, {T: 5},
		rec(-1, 0, 0), rec(61, 0, 0), rec(5, -1, 0), rec(5, 4, 0), rec(5, 0, -10), rec(5, 0, 10), {Kind: impl.ItmRec, T: 5, N: 1}, rec(math.MaxInt, 0, 0), rec(5, 0, math.MinInt),
		mark(0), mark(-1), mark(61), mark(999), mark(1001), mark(math.MaxInt), mark(math.MinInt), {Kind: impl.ItmMark, T: 5, Key: 1}, {Kind: impl.ItmMark, T: 5, V: 1}, {Kind: impl.ItmMark, T: 5, N: 1},
		wall(0), wall(-1), wall(901), wall(math.MaxInt), wall(math.MinInt), {Kind: impl.ItmWall, N: 5, T: 1}, {Kind: impl.ItmWall, N: 5, Key: 1}, {Kind: impl.ItmWall, N: 5, V: 1},
	} {
		for at := -1; at <= 2; at++ {
			for _, k := range []impl.TskTask{free, full} {
				if after, put := checkPutIn(t, j, k, at, x); put || !isNothing(after) {
					t.Errorf("%v into %d: %+v %v", x, at, after, put)
				}
			}
		}
	}
}

// lateTimes is so many pairs that are ok.
func lateTimes(n int) []impl.LatPair {
	return slices.Repeat([]impl.LatPair{lat(rec(7, 1, 4), 5, 10)}, n)
}

// paneTimes is so many panes that are ok.
func paneTimes(n int) []impl.PanPane {
	return slices.Repeat([]impl.PanPane{timely(1, 5, 10, one(4))}, n)
}

// A task of two sources, turned by one thing; with room for three items in a channel.
func TestP32OkAtEachEdge(t *testing.T) {
	plain := task(2, in(12, rec(7, 1, 4), wall(2)), in(20, mark(21)))
	plain.Op.Rows = []impl.OpRow{told(1, 5, 10, 1, one(4)), untold(1, 10, 15, one(4))}
	plain.Pend = txn(0, paneTimes(1), lateTimes(2))
	for _, c := range []struct {
		name string
		ok   bool
		turn func(*impl.TskTask)
	}{
		{"as it is", true, func(k *impl.TskTask) {}},
		{"the operator's Mark less", false, func(k *impl.TskTask) { k.Op.Mark = 11 }},
		{"the operator's Mark more", false, func(k *impl.TskTask) { k.Op.Mark = 13 }},
		{"the operator's Mark the greater one", false, func(k *impl.TskTask) { k.Op = operator(20) }},
		{"an operator that is not ok", false, func(k *impl.TskTask) { k.Op.Rows[0].Told = 0 }},
		{"an operator of no rows", true, func(k *impl.TskTask) { k.Op.Rows = nil }},
		{"no channel", false, func(k *impl.TskTask) { k.Ins = nil }},
		{"no channel, and the end", false, func(k *impl.TskTask) { k.Ins, k.Op = nil, operator(1000) }},
		{"a channel less", false, func(k *impl.TskTask) { k.Ins = k.Ins[:1] }},
		{"a channel more", false, func(k *impl.TskTask) { k.Ins = append(k.Ins, in(12)) }},
		{"two channels more", false, func(k *impl.TskTask) { k.Ins = append(k.Ins, in(12), in(30)) }},
		{"no items", true, func(k *impl.TskTask) { k.Ins[0].Queue, k.Ins[1].Queue = nil, nil }},
		{"as many items as there is room for", true, func(k *impl.TskTask) { k.Ins[0].Queue, k.Ins[1].Queue = times(3, wall(2)), times(3, mark(1)) }},
		{"one more in the first channel", false, func(k *impl.TskTask) { k.Ins[0].Queue = times(4, wall(2)) }},
		{"one more in the last channel", false, func(k *impl.TskTask) { k.Ins[1].Queue = times(4, rec(7, 1, 4)) }},
		{"many more", false, func(k *impl.TskTask) { k.Ins[1].Queue = times(400, rec(7, 1, 4)) }},
		{"an item of nothing", false, func(k *impl.TskTask) { k.Ins[0].Queue[0] = impl.ItmItem{} }},
		{"a record that is not ok", false, func(k *impl.TskTask) { k.Ins[0].Queue[0] = rec(61, 0, 0) }},
		{"a wall that is not ok, at the end of a queue", false, func(k *impl.TskTask) { k.Ins[0].Queue[1] = wall(901) }},
		{"a mark that is not ok, in the last channel", false, func(k *impl.TskTask) { k.Ins[1].Queue[0] = mark(0) }},
		{"a mark that is not ok, in a channel that is held", false, func(k *impl.TskTask) { k.Ins[1] = held(20, mark(999)) }},
		{"a channel's Mark below 0", false, func(k *impl.TskTask) { k.Ins[0].Mark = -1 }},
		{"a channel's Mark below 0, and the operator's", false, func(k *impl.TskTask) { k.Ins[0].Mark, k.Op.Mark = -1, -1 }},
		{"a channel's Mark 0", true, func(k *impl.TskTask) { k.Ins[0].Mark, k.Op = 0, operator(0) }},
		{"a channel's Mark one less than the operator's", false, func(k *impl.TskTask) { k.Ins[1].Mark = 11 }},
		{"both channels' Mark the operator's", true, func(k *impl.TskTask) { k.Ins[1].Mark = 12 }},
		{"no channel's Mark the operator's", false, func(k *impl.TskTask) { k.Ins[0].Mark = 13 }},
		{"a channel's Mark 999", true, func(k *impl.TskTask) { k.Ins[1].Mark = 999 }},
		{"a channel's Mark the end", true, func(k *impl.TskTask) { k.Ins[1].Mark = 1000 }},
		{"a channel's Mark behind the end", false, func(k *impl.TskTask) { k.Ins[1].Mark = 1001 }},
		{"a channel's Mark as great as can be", false, func(k *impl.TskTask) { k.Ins[1].Mark = math.MaxInt }},
		{"a channel's Mark as small as can be", false, func(k *impl.TskTask) { k.Ins[1].Mark = math.MinInt }},
		{"all at the end", true, func(k *impl.TskTask) { k.Ins[0].Mark, k.Ins[1].Mark, k.Op = 1000, 1000, operator(1000) }},
		{"all behind the end", false, func(k *impl.TskTask) { k.Ins[0].Mark, k.Ins[1].Mark, k.Op = 1001, 1001, operator(1000) }},
		{"the first channel held", true, func(k *impl.TskTask) { k.Ins[0].Held = true }},
		{"the last channel held", true, func(k *impl.TskTask) { k.Ins[1].Held = true }},
		{"all channels held", false, func(k *impl.TskTask) { k.Ins[0].Held, k.Ins[1].Held = true, true }},
		{"a channel held with no wall", true, func(k *impl.TskTask) { k.Ins[0].Held, k.Wall = true, 0 }},
		{"Wall below 0", false, func(k *impl.TskTask) { k.Wall = -1 }},
		{"Wall 0", true, func(k *impl.TskTask) { k.Wall = 0 }},
		{"Wall 900", true, func(k *impl.TskTask) { k.Wall = 900 }},
		{"Wall 901", false, func(k *impl.TskTask) { k.Wall = 901 }},
		{"Wall as great as can be", false, func(k *impl.TskTask) { k.Wall = math.MaxInt }},
		{"Wall as small as can be", false, func(k *impl.TskTask) { k.Wall = math.MinInt }},
		{"nothing told", true, func(k *impl.TskTask) { k.Pend = impl.TskTxn{} }},
		{"told, with N 1", false, func(k *impl.TskTask) { k.Pend.N = 1 }},
		{"told, with N of the wall", false, func(k *impl.TskTask) { k.Pend.N = 2 }},
		{"told, with N -1", false, func(k *impl.TskTask) { k.Pend.N = -1 }},
		{"nothing told, with N", false, func(k *impl.TskTask) { k.Pend = txn(900, nil, nil) }},
		{"told, a pane that is not ok", false, func(k *impl.TskTask) { k.Pend.Panes[0].No = 1 }},
		{"told, a pane of nothing behind others", false, func(k *impl.TskTask) { k.Pend.Panes = append(paneTimes(4), impl.PanPane{}) }},
		{"told, panes that are not sound", true, func(k *impl.TskTask) { k.Pend.Panes = []impl.PanPane{late(1, 5, 10, 7, one(4)), gone(1, 5, 10, 3)} }},
		{"told, a pair that is not ok", false, func(k *impl.TskTask) { k.Pend.Lates[0].Win.End = 7 }},
		{"told, a pair of nothing behind others", false, func(k *impl.TskTask) { k.Pend.Lates = append(lateTimes(4), impl.LatPair{}) }},
		{"told, a pair of a mark", false, func(k *impl.TskTask) { k.Pend.Lates[1].Rec = mark(7) }},
		{"told, as many panes as may be", true, func(k *impl.TskTask) { k.Pend.Panes = paneTimes(1500) }},
		{"told, one pane more", false, func(k *impl.TskTask) { k.Pend.Panes = paneTimes(1501) }},
		{"told, as many pairs as may be", true, func(k *impl.TskTask) { k.Pend.Lates = lateTimes(1500) }},
		{"told, one pair more", false, func(k *impl.TskTask) { k.Pend.Lates = lateTimes(1501) }},
		{"told, as many of both as may be", true, func(k *impl.TskTask) { k.Pend = txn(0, paneTimes(1500), lateTimes(1500)) }},
		{"told, the last pane of as many as may be is not ok", false, func(k *impl.TskTask) { k.Pend.Panes = append(paneTimes(1499), impl.PanPane{}) }},
	} {
		k := turnedBy(plain, c.turn)
		for _, kind := range eachKind() {
			j := withSources(kind, 2, 3)
			if got := impl.TskOk(j, k); got != c.ok || isTask(j, k) != c.ok {
				t.Errorf("%s, %+v: %v", c.name, j, got)
			}
			if !c.ok {
				checkNotOk(t, c.name, j, k)
			}
		}
	}
}

func TestP32OkForAJobThatIsNot(t *testing.T) {
	for _, j := range brokenJobs() {
		for _, k := range []impl.TskTask{{}, task(0, in(0)), task(0, in(0), in(0)), task(3, in(7, rec(7, 1, 4)), held(9, wall(3)))} {
			checkNotOk(t, "a job that is not ok", j, k)
		}
	}
}

func TestP32OneSourceIsNeverHeld(t *testing.T) {
	for _, kind := range eachKind() {
		j := withSources(kind, 1, 2)
		if !impl.TskOk(j, task(3, in(7, wall(3)))) {
			t.Error("one channel, not held")
		}
		checkNotOk(t, "one channel, held", j, task(3, held(7, wall(3))))
		k := withSources(kind, 3, 2)
		if !impl.TskOk(k, task(3, held(7), in(8), held(9))) {
			t.Error("two of three held")
		}
		checkNotOk(t, "three of three held", k, task(3, held(7), held(8), held(9)))
	}
}

func TestP32OfAnyTask(t *testing.T) {
	r := fixed()
	fine, broken := 0, 0
	for range 15000 {
		j := anyJob(r)
		k := anyTask(r, j)
		if !impl.TskOk(j, k) || !isTask(j, k) {
			t.Fatalf("%+v %+v is not ok", j, k)
		}
		checkPutIn(t, j, k, r.Intn(5)-1, nearItem(r, k.Op.Mark, k.Wall))
		b := brokenTask(r, k)
		checkPutIn(t, j, b, r.Intn(5)-1, anyItem(r))
		if got := impl.TskOk(j, b); got != isTask(j, b) {
			t.Fatalf("%+v %+v: %v", j, b, got)
		} else if got {
			fine++
		} else {
			broken++
		}
	}
	if fine < 500 || broken < 500 {
		t.Fatalf("%d are ok, %d are not", fine, broken)
	}
}

func TestTheLeastMarkAndHowManyAreHeld(t *testing.T) {
	for _, c := range []struct {
		name      string
		ins       []impl.TskIn
		low, held int
	}{
		{"no channel", nil, 1000, 0},
		{"one", []impl.TskIn{in(0)}, 0, 0}, {"one that is held", []impl.TskIn{held(7)}, 7, 1}, {"one at the end", []impl.TskIn{in(1000)}, 1000, 0},
		{"one behind the end", []impl.TskIn{in(1001)}, 1000, 0}, {"one as far as can be", []impl.TskIn{held(math.MaxInt)}, 1000, 1},
		{"one below 0", []impl.TskIn{in(-1)}, -1, 0}, {"one as small as can be", []impl.TskIn{in(math.MinInt)}, math.MinInt, 0},
		{"the first is the least", []impl.TskIn{held(3), in(4), held(5)}, 3, 2}, {"the second is", []impl.TskIn{in(4), in(3), held(5)}, 3, 1}, {"the last is", []impl.TskIn{held(1000), held(4), held(3)}, 3, 3},
		{"all the same", []impl.TskIn{in(9), in(9), in(9)}, 9, 0}, {"one below 0, one behind the end", []impl.TskIn{in(math.MaxInt), held(math.MinInt + 1)}, math.MinInt + 1, 1},
		{"more than there are sources", []impl.TskIn{in(9), held(8), in(9), held(9), held(9), in(9), held(9)}, 8, 4},
		{"items are nothing to it", []impl.TskIn{in(9, mark(3), wall(4)), held(8, mark(1000))}, 8, 1},
	} {
		for _, k := range []impl.TskTask{{Ins: c.ins}, {Ins: c.ins, Op: operator(5), Wall: 7}, {Ins: c.ins, Op: operator(math.MinInt), Wall: -1, Pend: txn(-1, paneTimes(1), nil)}} {
			if low, held := impl.TskLow(k), impl.TskHeld(k); low != c.low || held != c.held {
				t.Errorf("%s: %d %d", c.name, low, held)
			}
		}
	}
	r := fixed()
	for range 5000 {
		k := brokenTask(r, anyTask(r, anyJob(r)))
		count := 0
		for _, c := range k.Ins {
			if c.Held {
				count++
			}
		}
		if low, held := impl.TskLow(k), impl.TskHeld(k); low != leastMark(k.Ins) || held != count {
			t.Fatalf("%+v: %d %d", k, low, held)
		}
	}
}
