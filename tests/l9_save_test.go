package tests

import (
	"math/rand"
	"slices"
	"testing"

	"loop.example/freshet/impl"
)

// checkSaved saves what is ready: it is safe, field by field, and nothing is under way.
func checkSaved(t *testing.T, j impl.JobJob, c impl.CkpState) impl.CkpState {
	t.Helper()
	after, isNow := impl.CkpSave(j, c)
	if !impl.CkpReady(j, c) || !isNow {
		t.Fatalf("%+v, %+v is not ready", j, c)
	}
	if after.Safe.N != c.N || !slices.Equal(after.Safe.At, c.Src) || !slices.EqualFunc(after.Safe.Snaps, c.Snaps, sameSnap) {
		t.Fatalf("%+v, %+v: safe is %+v", j, c, after.Safe)
	}
	if after.N != c.N {
		t.Fatalf("%+v, %+v: N is %d", j, c, after.N)
	}
	checkAtRest(t, j, after)
	return after
}

// checkNotSaved saves what is not ready: all is as it was.
func checkNotSaved(t *testing.T, j impl.JobJob, c impl.CkpState) {
	t.Helper()
	if impl.CkpReady(j, c) {
		t.Fatalf("%+v, %+v is ready", j, c)
	}
	if after, isNow := impl.CkpSave(j, c); isNow || !sameCkp(after, c) {
		t.Fatalf("%+v, %+v: %+v %v", j, c, after, isNow)
	}
}

// checkAtRest asks whether none is under way, and nobody has told anything.
func checkAtRest(t *testing.T, j impl.JobJob, c impl.CkpState) {
	t.Helper()
	if !impl.CkpOk(j, c) || c.Open || impl.CkpReady(j, c) {
		t.Fatalf("%+v, %+v is not ok, or under way", j, c)
	}
	if !slices.Equal(c.Src, []int{-1, -1, -1}[:j.Sources]) || !slices.Equal(c.Tsk, make([]bool, j.Tasks)) {
		t.Fatalf("%+v, %+v: somebody has told", j, c)
	}
	if !slices.EqualFunc(c.Snaps, make([]impl.CkpSnap, j.Tasks), sameSnap) {
		t.Fatalf("%+v, %+v: something is kept", j, c)
	}
}

// toldBy is checkpoints for which only some have told: bits of sources first, then of tasks.
func toldBy(c impl.CkpState, who int) impl.CkpState {
	all := allTell(c)
	for at := range c.Src {
		if who>>at&1 == 1 {
			c = tellsSource(c, at, all.Src[at])
		}
	}
	for at := range c.Tsk {
		if who>>(len(c.Src)+at)&1 == 1 {
			c = tellsTask(c, at, all.Snaps[at])
		}
	}
	return c
}

func TestP29WhoHasTold(t *testing.T) {
	for _, j := range sizedJobs() {
		all := 1<<(j.Sources+j.Tasks) - 1
		for who := 0; who <= all; who++ {
			c := toldBy(begun(j, 7, 3), who)
			if who == all {
				checkSaved(t, j, c)
			} else {
				checkNotSaved(t, j, c)
			}
			checkCkp(t, "some have told", j, c)
		}
	}
}

func TestP29AllButOne(t *testing.T) {
	for _, j := range sizedJobs() {
		all := allTell(begun(j, 1, 0))
		for src := range j.Sources {
			c := tellsSource(all, src, -1)
			checkNotSaved(t, j, c)
			checkSaved(t, j, tellsSource(c, src, 0))
			for task := range j.Tasks {
				b := ckpBy(c, func(c *impl.CkpState) { c.Tsk[task], c.Snaps[task] = false, impl.CkpSnap{} })
				checkNotSaved(t, j, b)
				checkNotSaved(t, j, tellsSource(b, src, 40))
				checkNotSaved(t, j, tellsTask(b, task, someSnap(j.Sources, 2)))
				checkSaved(t, j, tellsSource(tellsTask(b, task, someSnap(j.Sources, 2)), src, 1))
			}
		}
	}
}

// A source has told with whatever item, the first of all and the last among them; a task with whatever is kept, a new operator among them.
func TestP29WhateverWasTold(t *testing.T) {
	for _, j := range sizedJobs() {
		for item := range 41 {
			for src := range j.Sources {
				after := checkSaved(t, j, tellsSource(allTell(begun(j, 9, 8)), src, item))
				if after.Safe.At[src] != item {
					t.Fatalf("%d: %+v", item, after)
				}
			}
		}
		for task := range j.Tasks {
			for _, s := range []impl.CkpSnap{
				snap(operator(0), make([]int, j.Sources)...), snap(operator(1000), slices.Repeat([]int{1000}, j.Sources)...),
				someSnap(j.Sources, 0), someSnap(j.Sources, 9), snap(operator(7, untold(3, 5, 10, one(-9))), []int{7, 60, 1000}[:j.Sources]...),
			} {
				after := checkSaved(t, j, tellsTask(allTell(begun(j, 9, 8)), task, s))
				if !sameSnap(after.Safe.Snaps[task], s) {
					t.Fatalf("%+v: %+v", s, after)
				}
			}
		}
	}
}

func TestP29FieldByField(t *testing.T) {
	j := plainSized(2, 2)
	first, last := snap(operator(12, told(1, 5, 10, 1, one(4)), untold(1, 10, 15, one(4))), 12, 20), snap(operator(9), 1000, 9)
	c := impl.CkpState{N: 6, Open: true, Src: []int{0, 31}, Tsk: []bool{true, true}, Snaps: []impl.CkpSnap{first, last}, Safe: plainSafe()}
	want := impl.CkpState{
		N: 6, Src: []int{-1, -1}, Tsk: []bool{false, false}, Snaps: []impl.CkpSnap{{}, {}},
		Safe: impl.CkpSafe{N: 6, At: []int{0, 31}, Snaps: []impl.CkpSnap{first, last}},
	}
	if after, isNow := impl.CkpSave(j, c); !isNow || !sameCkp(after, want) {
		t.Fatalf("%+v %v", after, isNow)
	}
}

func TestP29Numbers(t *testing.T) {
	for _, j := range sizedJobs() {
		for _, c := range []struct{ n, safe int }{{1, 0}, {2, 0}, {2, 1}, {900, 0}, {900, 899}, {899, 898}} {
			if after := checkSaved(t, j, allTell(begun(j, c.n, c.safe))); after.Safe.N != c.n {
				t.Fatalf("%+v", after)
			}
			checkNotSaved(t, j, begun(j, c.n, c.safe))
			checkNotSaved(t, j, idle(c.n, somethingSafe(j, c.safe)))
		}
	}
}

func TestP29Twice(t *testing.T) {
	for _, j := range sizedJobs() {
		first := checkSaved(t, j, allTell(begun(j, 7, 3)))
		checkNotSaved(t, j, first)
		again := impl.CkpAsk(j, first)
		if again.N != 8 || !again.Open || !sameSafe(again.Safe, first.Safe) {
			t.Fatalf("%+v", again)
		}
		checkNotSaved(t, j, again)
		for at := range j.Sources {
			checkNotSaved(t, j, again)
			again = tellsSource(again, at, 20+at)
		}
		for at := range j.Tasks {
			checkNotSaved(t, j, again)
			again = tellsTask(again, at, someSnap(j.Sources, 7-at))
		}
		second := checkSaved(t, j, again)
		checkNotSaved(t, j, second)
		if second.Safe.N != 8 || second.Safe.At[0] != 20 || sameSafe(second.Safe, first.Safe) {
			t.Fatalf("%+v", second)
		}
	}
}

func TestP30WithOneUnderWay(t *testing.T) {
	for _, j := range sizedJobs() {
		for _, n := range []struct{ n, safe int }{{1, 0}, {7, 3}, {899, 898}, {900, 0}, {900, 899}} {
			for who := range 1 << (j.Sources + j.Tasks) {
				c := toldBy(begun(j, n.n, n.safe), who)
				after := impl.CkpDrop(j, c)
				checkAtRest(t, j, after)
				if after.N != n.n || !sameSafe(after.Safe, c.Safe) {
					t.Fatalf("%+v: %+v", c, after)
				}
				if !sameCkp(impl.CkpDrop(j, after), after) {
					t.Fatalf("%+v: twice is not as once", c)
				}
				checkNotSaved(t, j, after)
			}
		}
	}
}

func TestP30WithNoneUnderWay(t *testing.T) {
	for _, j := range sizedJobs() {
		for _, n := range []struct{ n, safe int }{{0, 0}, {1, 0}, {1, 1}, {7, 3}, {900, 0}, {900, 900}} {
			c := idle(n.n, somethingSafe(j, n.safe))
			after := impl.CkpDrop(j, c)
			checkAtRest(t, j, after)
			if !sameCkp(after, c) || !sameCkp(impl.CkpDrop(j, after), c) {
				t.Fatalf("%+v: %+v", c, after)
			}
		}
	}
}

// What was given up leaves nothing behind but its number.
func TestP30WhatWasGivenUpIsNeverSafe(t *testing.T) {
	for _, j := range sizedJobs() {
		c := impl.CkpDrop(j, allTell(begun(j, 7, 3)))
		checkNotSaved(t, j, c)
		c = impl.CkpAsk(j, c)
		if c.N != 8 {
			t.Fatalf("%+v", c)
		}
		checkNotSaved(t, j, c)
		for at := range j.Tasks {
			c = tellsTask(c, at, someSnap(j.Sources, 1))
			checkNotSaved(t, j, c)
		}
		for at := range j.Sources {
			checkNotSaved(t, j, c)
			c = tellsSource(c, at, 11)
		}
		if after := checkSaved(t, j, c); after.Safe.N != 8 || after.Safe.At[0] != 11 {
			t.Fatalf("%+v", after)
		}
	}
}

// Whatever happens, checkpoints stay ok, and their numbers never go back.
func TestP29P30WhateverHappens(t *testing.T) {
	r := fixed()
	safeTimes, droppedTimes := 0, 0
	for range 200 {
		j := anyJob(r)
		c := impl.CkpNew(j)
		for range 60 {
			checkCkp(t, "on the way", j, c)
			before := ckpCopy(c)
			switch r.Intn(12) {
			case 0, 1:
				c = impl.CkpAsk(j, c)
			case 2, 3:
				isNow := false
				if c, isNow = impl.CkpSave(j, c); isNow {
					safeTimes++
				}
			case 4:
				if c = impl.CkpDrop(j, c); before.Open {
					droppedTimes++
				}
			case 5, 6, 7, 8:
				if c.Open {
					c = tellsSource(c, r.Intn(j.Sources), r.Intn(41))
				}
			default:
				if c.Open {
					c = tellsTask(c, r.Intn(j.Tasks), anySnap(r, j))
				}
			}
			if !impl.CkpOk(j, c) || c.N < before.N || c.Safe.N < before.Safe.N {
				t.Fatalf("%+v: %+v, then %+v", j, before, c)
			}
			if c.Safe.N == before.Safe.N && !sameSafe(c.Safe, before.Safe) {
				t.Fatalf("%+v: what is safe has turned: %+v, then %+v", j, before, c)
			}
		}
	}
	if safeTimes < 100 || droppedTimes < 100 {
		t.Fatalf("%d were safe, %d given up", safeTimes, droppedTimes)
	}
}

// guardedCkp is checkpoints whose lists lie each ahead of others that nobody may touch.
type guardedCkp struct {
	ckp   impl.CkpState
	nums  []guarded[int]
	tsk   guarded[bool]
	rows  []guarded[impl.OpRow]
	snaps [][]impl.CkpSnap
}

func (g *guardedCkp) guardNums(list []int) []int {
	n := guard(list, 77)
	g.nums = append(g.nums, n)
	return n.given
}

// behindSnaps is what lies behind lists of what is kept.
func behindSnaps() []impl.CkpSnap {
	return []impl.CkpSnap{snap(operator(77), 77), snap(operator(77), 77), snap(operator(77), 77)}
}

func (g *guardedCkp) guardSnaps(list []impl.CkpSnap) []impl.CkpSnap {
	var whole []impl.CkpSnap
	for _, s := range list {
		rows := guard(s.Op.Rows, told(77, 77, 77, 77, one(7)))
		g.rows = append(g.rows, rows)
		whole = append(whole, snap(impl.OpState{Mark: s.Op.Mark, Rows: rows.given}, g.guardNums(s.Marks)...))
	}
	whole = append(whole, behindSnaps()...)
	g.snaps = append(g.snaps, whole)
	return whole[:len(list)]
}

// guardCkp guards checkpoints; behind Tsk lies one or the other.
func guardCkp(c impl.CkpState, behind bool) *guardedCkp {
	g := &guardedCkp{ckp: c, tsk: guard(c.Tsk, behind)}
	g.ckp.Src, g.ckp.Tsk, g.ckp.Snaps = g.guardNums(c.Src), g.tsk.given, g.guardSnaps(c.Snaps)
	g.ckp.Safe.At, g.ckp.Safe.Snaps = g.guardNums(c.Safe.At), g.guardSnaps(c.Safe.Snaps)
	return g
}

func (g *guardedCkp) check(t *testing.T, by string, was impl.CkpState) {
	t.Helper()
	for _, n := range g.nums {
		n.check(t, by)
	}
	for _, r := range g.rows {
		r.check(t, by)
	}
	g.tsk.check(t, by)
	for _, whole := range g.snaps {
		if !slices.EqualFunc(whole[len(whole)-3:], behindSnaps(), sameSnap) {
			t.Fatalf("%s has written behind the end of what is kept: %+v", by, whole)
		}
	}
	if !sameCkp(g.ckp, was) {
		t.Fatalf("%s has turned its argument: %+v, was %+v", by, g.ckp, was)
	}
}

// spoilers writes over the lists of checkpoints, up to the ends of their room, one list at a time, inner ones first.
func spoilers(c impl.CkpState) []func() {
	all := []func(){func() { fill(c.Src, 66) }, func() { fill(c.Tsk, true) }, func() { fill(c.Tsk, false) }, func() { fill(c.Safe.At, 66) }}
	for _, snaps := range [][]impl.CkpSnap{c.Snaps, c.Safe.Snaps} {
		for _, s := range snaps {
			all = append(all, func() { fill(s.Op.Rows, told(66, 66, 66, 66, one(6))) }, func() { fill(s.Marks, 66) })
		}
	}
	return append(all, func() { fill(c.Snaps, snap(operator(66), 66)) }, func() { fill(c.Safe.Snaps, snap(operator(66), 66)) })
}

func spoilCkp(c impl.CkpState) {
	for _, spoil := range spoilers(c) {
		spoil()
	}
}

// checkCkpApart writes over each list of an answer: no other one may turn.
func checkCkpApart(t *testing.T, by string, c impl.CkpState) {
	t.Helper()
	want := ckpCopy(c)
	same := spoilers(want)
	for i, spoil := range spoilers(c) {
		spoil()
		same[i]()
		if !sameCkp(c, want) {
			t.Fatalf("%s: list %d shares memory with another one: %+v, not %+v", by, i, c, want)
		}
	}
}

// ckpAnswers is what all functions answer that answer checkpoints, by their names.
func ckpAnswers(j impl.JobJob, c impl.CkpState) map[string]impl.CkpState {
	kept, _ := impl.CkpSave(j, c)
	return map[string]impl.CkpState{"CkpNew": impl.CkpNew(j), "CkpAsk": impl.CkpAsk(j, c), "CkpSave": kept, "CkpDrop": impl.CkpDrop(j, c)}
}

func TestCheckpointsLeaveTheirArguments(t *testing.T) {
	r := fixed()
	for range 4000 {
		j := anyJob(r)
		was := anyCkp(r, j)
		if r.Intn(5) == 0 {
			was = brokenCkp(r, was)
		}
		g := guardCkp(was, r.Intn(2) == 0)
		for by, after := range ckpAnswers(j, g.ckp) {
			spoilCkp(after)
			g.check(t, by, was)
		}
		impl.CkpOk(j, g.ckp)
		impl.CkpReady(j, g.ckp)
		g.check(t, "CkpOk or CkpReady", was)
	}
}

// An answer stays as it was, whatever is written into the argument, into another answer, and into any other list of it.
func TestCheckpointsAnswerInMemoryOfTheirOwn(t *testing.T) {
	r := fixed()
	ready := 0
	for range 4000 {
		j := anyJob(r)
		was := anyCkp(r, j)
		given := ckpCopy(was)
		if impl.CkpReady(j, given) {
			ready++
		}
		after, other := ckpAnswers(j, given), ckpAnswers(j, given)
		spoilCkp(given)
		for by, c := range other {
			checkCkpApart(t, by, c)
		}
		wantSave, _ := saved(j, was)
		beginning := idle(0, safe(0, make([]int, j.Sources), slices.Repeat([]impl.CkpSnap{snap(operator(0), make([]int, j.Sources)...)}, j.Tasks)...))
		for by, want := range map[string]impl.CkpState{"CkpNew": beginning, "CkpAsk": asked(j, was), "CkpSave": wantSave, "CkpDrop": dropped(j, was)} {
			if !sameCkp(after[by], want) {
				t.Fatalf("%s of %+v has turned: %+v, not %+v", by, was, after[by], want)
			}
		}
	}
	if ready < 500 {
		t.Fatalf("%d ready", ready)
	}
}

// Lists of an argument may be one and the same; those of an answer may not.
func TestCheckpointsOfListsThatAreOne(t *testing.T) {
	for _, j := range sizedJobs() {
		src := []int{5, 5, 5}[:j.Sources]
		s := snap(operator(5, untold(1, 10, 15, one(4))), src...)
		snaps := []impl.CkpSnap{s, s}[:j.Tasks]
		c := impl.CkpState{N: 2, Open: true, Src: src, Tsk: []bool{true, true}[:j.Tasks], Snaps: snaps, Safe: safe(1, src, snaps...)}
		if !impl.CkpReady(j, c) {
			t.Fatalf("%+v is not ready", c)
		}
		checkCkp(t, "lists that are one", j, c)
		for by, after := range ckpAnswers(j, c) {
			checkCkpApart(t, by, after)
		}
		if c.N != 2 || !slices.Equal(src, []int{5, 5, 5}[:j.Sources]) {
			t.Fatalf("%+v has turned", c)
		}
	}
}

func TestCheckpointsAnswerTheSameEachTime(t *testing.T) {
	r := fixed()
	for range 200 {
		j := anyJob(r)
		c := anyCkp(r, j)
		for range 10 {
			checkCkp(t, "each time", j, c)
		}
	}
}

// The empty list and the nil list are the same value.
func TestCheckpointsOfEmptyLists(t *testing.T) {
	none := impl.OpState{Rows: []impl.OpRow{}}
	for _, j := range sizedJobs() {
		marks := make([]int, j.Sources)
		nothing, fresh := impl.CkpSnap{Op: none, Marks: []int{}}, impl.CkpSnap{Op: none, Marks: marks}
		c := impl.CkpNew(j)
		c.Snaps, c.Safe.Snaps = []impl.CkpSnap{nothing, nothing}[:j.Tasks], []impl.CkpSnap{fresh, fresh}[:j.Tasks]
		if !impl.CkpOk(j, c) || !sameCkp(c, impl.CkpNew(j)) {
			t.Errorf("%+v: empty lists are not ok", j)
		}
		checkCkp(t, "empty lists", j, c)
		checkNoCkp(t, "all lists empty", j, impl.CkpState{Src: []int{}, Tsk: []bool{}, Snaps: []impl.CkpSnap{}, Safe: safe(0, []int{}, []impl.CkpSnap{}...)})
	}
}

// anyNumbersCkp is checkpoints of any numbers.
func anyNumbersCkp(r *rand.Rand) impl.CkpState {
	n := func(*rand.Rand) int { return pick(r, edges) }
	yes := func(*rand.Rand) bool { return r.Intn(2) == 0 }
	kept := func(*rand.Rand) impl.CkpSnap {
		return snap(anyNumbersTask(r).Op, several(r, 4, n)...)
	}
	return impl.CkpState{
		N: n(r), Open: yes(r), Src: several(r, 4, n), Tsk: several(r, 3, yes), Snaps: several(r, 3, kept),
		Safe: safe(n(r), several(r, 4, n), several(r, 3, kept)...),
	}
}

func TestCheckpointsAnswerAtEveryArgument(t *testing.T) {
	r := fixed()
	for range 15000 {
		j := anyJob(r)
		c := anyCkp(r, j)
		switch r.Intn(4) {
		case 0:
			c = brokenCkp(r, c)
		case 1:
			c = anyNumbersCkp(r)
		case 2:
			j = anyNumbersJob(r)
		}
		quiet(t, []any{j, c}, func() {
			impl.CkpNew(j)
			checkCkp(t, "any numbers", j, c)
		})
	}
	for _, n := range edges {
		s := snap(operator(n, impl.OpRow{Key: n, Win: win(n, n), All: agg(n, n, n, n), Fresh: agg(n, n, n, n), Told: n}), n, n)
		for _, c := range []impl.CkpState{
			{}, {N: n}, {N: n, Open: true}, idle(n, safe(n, []int{n, n}, s, s)), idle(n, plainSafe()), idle(5, safe(n, []int{n, 0}, plainSafe().Snaps...)),
			{N: n, Open: true, Src: []int{n, n}, Tsk: []bool{true, true}, Snaps: []impl.CkpSnap{s, s}, Safe: plainSafe()},
			{N: 5, Open: true, Src: slices.Repeat([]int{n}, 300), Tsk: slices.Repeat([]bool{true}, 300), Snaps: slices.Repeat([]impl.CkpSnap{s}, 300), Safe: plainSafe()},
		} {
			for _, j := range append(sizedJobs(), impl.JobJob{}, impl.JobJob{Sources: n, Tasks: n, Kind: n, Size: n, Step: n, Late: n, Tell: n, Least: n, Room: n}, withTasks(plainSized(1, 1), n, 2), withTasks(plainSized(1, 1), 2, n)) {
				quiet(t, []any{j, c}, func() {
					impl.CkpNew(j)
					checkCkp(t, "the same number all over", j, c)
				})
			}
		}
	}
}
