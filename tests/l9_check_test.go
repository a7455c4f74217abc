package tests

import (
	"math"
	"math/rand"
	"slices"
	"testing"

	"loop.example/freshet/impl"
)

// snap is what is kept of a task.
func snap(op impl.OpState, marks ...int) impl.CkpSnap {
	return impl.CkpSnap{Op: op, Marks: marks}
}

// safe is a checkpoint that is safe.
func safe(n int, at []int, snaps ...impl.CkpSnap) impl.CkpSafe {
	return impl.CkpSafe{N: n, At: at, Snaps: snaps}
}

// idle is checkpoints of which none is under way, for so many sources and tasks as are in what is safe.
func idle(n int, s impl.CkpSafe) impl.CkpState {
	return impl.CkpState{
		N: n, Src: slices.Repeat([]int{-1}, len(s.At)), Tsk: slices.Repeat([]bool{false}, len(s.Snaps)),
		Snaps: slices.Repeat([]impl.CkpSnap{{}}, len(s.Snaps)), Safe: s,
	}
}

// withTasks is a job with so many sources and tasks.
func withTasks(j impl.JobJob, sources, tasks int) impl.JobJob {
	j.Sources, j.Tasks = sources, tasks
	return j
}

// sizedJobs is a job of each Kind with each number of sources and tasks.
func sizedJobs() []impl.JobJob {
	var all []impl.JobJob
	for _, j := range eachKind() {
		for sources := 1; sources <= 3; sources++ {
			for tasks := 1; tasks <= 2; tasks++ {
				all = append(all, withTasks(j, sources, tasks))
			}
		}
	}
	return all
}

// someSnap is what may be kept of a task of a job with so many sources, told apart by a number of 0 to 9.
func someSnap(sources, no int) impl.CkpSnap {
	marks := []int{10 + no, 10 + no, 1000}[:sources]
	return snap(operator(10+no, told(no%4, 7+no, 9+no, 1+no, one(no)), untold(no%4, 12+no, 17+no, agg(2, 3, 1, 2))), marks...)
}

// somethingSafe is a checkpoint that may be safe for a job.
func somethingSafe(j impl.JobJob, n int) impl.CkpSafe {
	s := safe(n, []int{7, 0, 40}[:j.Sources])
	for task := range j.Tasks {
		s.Snaps = append(s.Snaps, someSnap(j.Sources, 3+task))
	}
	return s
}

// begun is checkpoints with one under way of that number, for which nobody has told anything.
func begun(j impl.JobJob, n, safeN int) impl.CkpState {
	c := idle(n, somethingSafe(j, safeN))
	c.Open = true
	return c
}

// tellsSource lets a source tell that it has sent the wall behind so many items.
func tellsSource(c impl.CkpState, at, item int) impl.CkpState {
	return ckpBy(c, func(c *impl.CkpState) { c.Src[at] = item })
}

// tellsTask lets a task tell what is kept of it.
func tellsTask(c impl.CkpState, at int, s impl.CkpSnap) impl.CkpState {
	return ckpBy(c, func(c *impl.CkpState) { c.Tsk[at], c.Snaps[at] = true, s })
}

// allTell lets all sources and tasks tell.
func allTell(c impl.CkpState) impl.CkpState {
	for at := range c.Src {
		c = tellsSource(c, at, []int{0, 40, 9}[at])
	}
	for at := range c.Tsk {
		c = tellsTask(c, at, someSnap(len(c.Src), 5+at))
	}
	return c
}

func sameSnap(a, b impl.CkpSnap) bool {
	return sameOperator(a.Op, b.Op) && slices.Equal(a.Marks, b.Marks)
}

func sameSafe(a, b impl.CkpSafe) bool {
	return a.N == b.N && slices.Equal(a.At, b.At) && slices.EqualFunc(a.Snaps, b.Snaps, sameSnap)
}

func sameCkp(a, b impl.CkpState) bool {
	return a.N == b.N && a.Open == b.Open && slices.Equal(a.Src, b.Src) && slices.Equal(a.Tsk, b.Tsk) &&
		slices.EqualFunc(a.Snaps, b.Snaps, sameSnap) && sameSafe(a.Safe, b.Safe)
}

func isNoCkp(c impl.CkpState) bool {
	return sameCkp(c, impl.CkpState{})
}

func snapsCopy(snaps []impl.CkpSnap) []impl.CkpSnap {
	list := slices.Clone(snaps)
	for i, s := range list {
		list[i] = snap(operator(s.Op.Mark, slices.Clone(s.Op.Rows)...), slices.Clone(s.Marks)...)
	}
	return list
}

// ckpCopy is checkpoints in memory of their own.
func ckpCopy(c impl.CkpState) impl.CkpState {
	c.Src, c.Tsk, c.Snaps = slices.Clone(c.Src), slices.Clone(c.Tsk), snapsCopy(c.Snaps)
	c.Safe.At, c.Safe.Snaps = slices.Clone(c.Safe.At), snapsCopy(c.Safe.Snaps)
	return c
}

// ckpBy is a copy of checkpoints with something else in them.
func ckpBy(c impl.CkpState, turn func(*impl.CkpState)) impl.CkpState {
	k := ckpCopy(c)
	turn(&k)
	return k
}

// isSnap says whether what is kept of a task is ok, from the document's words.
func isSnap(j impl.JobJob, s impl.CkpSnap) bool {
	if !isOperator(j, s.Op) || len(s.Marks) != j.Sources || !slices.Contains(s.Marks, s.Op.Mark) {
		return false
	}
	return !slices.ContainsFunc(s.Marks, func(m int) bool { return m < 0 || m > 1000 || m < s.Op.Mark })
}

// isSafe says whether a checkpoint that is safe is ok, from the document's words.
func isSafe(j impl.JobJob, s impl.CkpSafe) bool {
	if s.N < 0 || s.N > 900 || len(s.At) != j.Sources || len(s.Snaps) != j.Tasks {
		return false
	}
	return !slices.ContainsFunc(s.At, func(at int) bool { return at < 0 || at > 40 }) &&
		!slices.ContainsFunc(s.Snaps, func(s impl.CkpSnap) bool { return !isSnap(j, s) })
}

// isCkp says the same as CkpOk, from the document's words.
func isCkp(j impl.JobJob, c impl.CkpState) bool {
	if !isJob(j) || !isSafe(j, c.Safe) || c.N < c.Safe.N || c.N > 900 || c.Open && c.N == c.Safe.N {
		return false
	}
	if len(c.Src) != j.Sources || len(c.Tsk) != j.Tasks || len(c.Snaps) != j.Tasks {
		return false
	}
	for _, at := range c.Src {
		if at < -1 || at > 40 || at > -1 && !c.Open {
			return false
		}
	}
	for i, has := range c.Tsk {
		if has && (!c.Open || !isSnap(j, c.Snaps[i])) || !has && !sameSnap(c.Snaps[i], impl.CkpSnap{}) {
			return false
		}
	}
	return true
}

// asked says the same as CkpAsk, from the document's words.
func asked(j impl.JobJob, c impl.CkpState) impl.CkpState {
	if !isCkp(j, c) {
		return impl.CkpState{}
	}
	k := ckpCopy(c)
	if !c.Open && c.N < 900 {
		k.Open = true
		k.N++
	}
	return k
}

// hasAll says the same as CkpReady, from the document's words.
func hasAll(j impl.JobJob, c impl.CkpState) bool {
	return isCkp(j, c) && c.Open && !slices.Contains(c.Src, -1) && !slices.Contains(c.Tsk, false)
}

// saved says the same as CkpSave, from the document's words.
func saved(j impl.JobJob, c impl.CkpState) (impl.CkpState, bool) {
	switch {
	case !isCkp(j, c):
		return impl.CkpState{}, false
	case !hasAll(j, c):
		return ckpCopy(c), false
	}
	return idle(c.N, safe(c.N, slices.Clone(c.Src), snapsCopy(c.Snaps)...)), true
}

// dropped says the same as CkpDrop, from the document's words.
func dropped(j impl.JobJob, c impl.CkpState) impl.CkpState {
	if !isCkp(j, c) {
		return impl.CkpState{}
	}
	return idle(c.N, ckpCopy(c).Safe)
}

// checkCkp holds all functions of checkpoints against the document's words.
func checkCkp(t *testing.T, name string, j impl.JobJob, c impl.CkpState) {
	t.Helper()
	if got, want := impl.CkpOk(j, c), isCkp(j, c); got != want {
		t.Fatalf("%s, %+v, %+v: ok %v, not %v", name, j, c, got, want)
	}
	if got, want := impl.CkpAsk(j, c), asked(j, c); !sameCkp(got, want) {
		t.Fatalf("%s, %+v, %+v, asked: %+v, not %+v", name, j, c, got, want)
	}
	if got, want := impl.CkpReady(j, c), hasAll(j, c); got != want {
		t.Fatalf("%s, %+v, %+v: ready %v, not %v", name, j, c, got, want)
	}
	got, gotSafe := impl.CkpSave(j, c)
	if want, wantSafe := saved(j, c); gotSafe != wantSafe || !sameCkp(got, want) {
		t.Fatalf("%s, %+v, %+v, saved: %+v %v, not %+v %v", name, j, c, got, gotSafe, want, wantSafe)
	}
	if got, want := impl.CkpDrop(j, c), dropped(j, c); !sameCkp(got, want) {
		t.Fatalf("%s, %+v, %+v, dropped: %+v, not %+v", name, j, c, got, want)
	}
}

// checkNoCkp holds all functions of checkpoints that are not ok against their fixed answers.
func checkNoCkp(t *testing.T, name string, j impl.JobJob, c impl.CkpState) {
	t.Helper()
	if impl.CkpOk(j, c) || impl.CkpReady(j, c) {
		t.Errorf("%s, %+v: %+v is ok or ready", name, j, c)
	}
	after, isNow := impl.CkpSave(j, c)
	if !isNoCkp(after) || isNow || !isNoCkp(impl.CkpAsk(j, c)) || !isNoCkp(impl.CkpDrop(j, c)) {
		t.Errorf("%s, %+v: something is left of %+v", name, j, c)
	}
}

// anySnap is what may be kept of a task.
func anySnap(r *rand.Rand, j impl.JobJob) impl.CkpSnap {
	s := snap(anyOperator(r, j, 4))
	for range j.Sources {
		s.Marks = append(s.Marks, min(s.Op.Mark+r.Intn(9), 1000))
	}
	s.Marks[r.Intn(j.Sources)] = s.Op.Mark
	return s
}

// anyCkp is checkpoints that are ok.
func anyCkp(r *rand.Rand, j impl.JobJob) impl.CkpState {
	s := safe(r.Intn(4), nil)
	if r.Intn(5) == 0 {
		s.N = pick(r, []int{0, 1, 897, 898, 899})
	}
	for range j.Sources {
		s.At = append(s.At, r.Intn(41))
	}
	for range j.Tasks {
		s.Snaps = append(s.Snaps, anySnap(r, j))
	}
	c := idle(min(s.N+r.Intn(4), 900), s)
	if c.Open = c.N > s.N && r.Intn(4) > 0; !c.Open {
		return c
	}
	all := r.Intn(2) == 0
	for i := range c.Src {
		if all || r.Intn(2) == 0 {
			c.Src[i] = pick(r, []int{0, 1, 39, 40, r.Intn(41)})
		}
	}
	for i := range c.Tsk {
		if all || r.Intn(2) == 0 {
			c.Tsk[i], c.Snaps[i] = true, anySnap(r, j)
		}
	}
	return c
}

// brokenCkp is checkpoints with one thing turned, so that more often than not they are not ok.
func brokenCkp(r *rand.Rand, c impl.CkpState) impl.CkpState {
	return ckpBy(c, func(c *impl.CkpState) {
		src, task := r.Intn(len(c.Src)), r.Intn(len(c.Tsk))
		kept := pick(r, []*impl.CkpSnap{&c.Snaps[task], &c.Safe.Snaps[task]})
		switch r.Intn(16) {
		case 0:
			c.N = pick(r, edges)
		case 1:
			c.N += r.Intn(9) - 4
		case 2:
			c.Open = !c.Open
		case 3:
			c.Src[src] = pick(r, edges)
		case 4:
			c.Tsk[task] = !c.Tsk[task]
		case 5:
			c.Src = append(c.Src, -1)[r.Intn(2)*2:]
		case 6:
			c.Tsk = append(c.Tsk, false)[r.Intn(2)*2:]
		case 7:
			c.Snaps = append(c.Snaps, impl.CkpSnap{})[r.Intn(2)*2:]
		case 8:
			c.Safe.N = pick(r, edges)
		case 9:
			c.Safe.At[src] = pick(r, edges)
		case 10:
			c.Safe.At = append(c.Safe.At, 0)[r.Intn(2)*2:]
		case 11:
			c.Safe.Snaps = append(c.Safe.Snaps, *kept)[r.Intn(2)*2:]
		case 12:
			kept.Op = brokenOperator(r, kept.Op)
		case 13:
			kept.Marks = append(kept.Marks, pick(r, edges))
		case 14:
			kept.Op.Mark += r.Intn(3) - 1
		case 15:
			if len(kept.Marks) > 0 {
				kept.Marks[r.Intn(len(kept.Marks))] = pick(r, edges)
			}
		}
	})
}

func TestP27TheBeginning(t *testing.T) {
	for _, c := range []struct {
		sources, tasks int
		want           impl.CkpState
	}{
		{1, 1, impl.CkpState{
			Src: []int{-1}, Tsk: []bool{false}, Snaps: []impl.CkpSnap{{}},
			Safe: impl.CkpSafe{At: []int{0}, Snaps: []impl.CkpSnap{{Marks: []int{0}}}},
		}},
		{2, 1, impl.CkpState{
			Src: []int{-1, -1}, Tsk: []bool{false}, Snaps: []impl.CkpSnap{{}},
			Safe: impl.CkpSafe{At: []int{0, 0}, Snaps: []impl.CkpSnap{{Marks: []int{0, 0}}}},
		}},
		{1, 2, impl.CkpState{
			Src: []int{-1}, Tsk: []bool{false, false}, Snaps: []impl.CkpSnap{{}, {}},
			Safe: impl.CkpSafe{At: []int{0}, Snaps: []impl.CkpSnap{{Marks: []int{0}}, {Marks: []int{0}}}},
		}},
		{3, 2, impl.CkpState{
			Src: []int{-1, -1, -1}, Tsk: []bool{false, false}, Snaps: []impl.CkpSnap{{}, {}},
			Safe: impl.CkpSafe{At: []int{0, 0, 0}, Snaps: []impl.CkpSnap{{Marks: []int{0, 0, 0}}, {Marks: []int{0, 0, 0}}}},
		}},
	} {
		for _, j := range eachKind() {
			if got := impl.CkpNew(withTasks(j, c.sources, c.tasks)); !sameCkp(got, c.want) {
				t.Errorf("%d sources, %d tasks: %+v", c.sources, c.tasks, got)
			}
		}
	}
}

func TestP27OfEachJob(t *testing.T) {
	for _, j := range append(sizedJobs(), windowJobs()...) {
		c := impl.CkpNew(j)
		if c.N != 0 || c.Open || c.Safe.N != 0 || len(c.Src) != j.Sources || len(c.Tsk) != j.Tasks || len(c.Snaps) != j.Tasks {
			t.Fatalf("%+v: %+v", j, c)
		}
		if !impl.CkpOk(j, c) || impl.CkpReady(j, c) || !sameCkp(impl.CkpDrop(j, c), c) {
			t.Fatalf("%+v: %+v is not ok, or something is under way", j, c)
		}
		if after, isNow := impl.CkpSave(j, c); isNow || !sameCkp(after, c) {
			t.Fatalf("%+v: %+v, saved: %+v", j, c, after)
		}
		for _, s := range c.Safe.Snaps {
			if k := impl.TskNew(j, s.Op, s.Marks); !impl.TskOk(j, k) || !sameTask(k, impl.TskNew(j, impl.OpState{}, make([]int, j.Sources))) {
				t.Fatalf("%+v: a task begins as %+v", j, k)
			}
		}
		checkCkp(t, "the beginning", j, c)
	}
}

func TestP27AJobThatIsNotOk(t *testing.T) {
	for _, j := range brokenJobs() {
		c := impl.CkpNew(j)
		if !isNoCkp(c) {
			t.Fatalf("%+v: %+v", j, c)
		}
		checkNoCkp(t, "nothing", j, c)
	}
}

func TestP28WithNoneUnderWay(t *testing.T) {
	for _, j := range sizedJobs() {
		for _, c := range []struct{ n, safe int }{{0, 0}, {1, 0}, {1, 1}, {7, 3}, {898, 0}, {898, 898}, {899, 0}, {899, 898}, {899, 899}} {
			before := idle(c.n, somethingSafe(j, c.safe))
			after := impl.CkpAsk(j, before)
			if after.N != c.n+1 || !after.Open {
				t.Fatalf("%+v: N %d, Open %v", before, after.N, after.Open)
			}
			if !sameSafe(after.Safe, before.Safe) {
				t.Fatalf("%+v: what is safe has turned: %+v", before, after.Safe)
			}
			if slices.ContainsFunc(after.Src, func(at int) bool { return at != -1 }) || slices.Contains(after.Tsk, true) ||
				slices.ContainsFunc(after.Snaps, func(s impl.CkpSnap) bool { return !sameSnap(s, impl.CkpSnap{}) }) {
				t.Fatalf("%+v: somebody has told: %+v", before, after)
			}
			if len(after.Src) != j.Sources || len(after.Tsk) != j.Tasks || len(after.Snaps) != j.Tasks || !impl.CkpOk(j, after) || impl.CkpReady(j, after) {
				t.Fatalf("%+v: %+v is not ok, or ready", before, after)
			}
			checkCkp(t, "none under way", j, before)
			checkCkp(t, "asked", j, after)
		}
	}
}

func TestP28WithNoneUnderWayAndNoNumberMore(t *testing.T) {
	for _, j := range sizedJobs() {
		for _, n := range []int{0, 3, 899, 900} {
			c := idle(900, somethingSafe(j, n))
			if after := impl.CkpAsk(j, c); !sameCkp(after, c) || after.Open || after.N != 900 {
				t.Errorf("%+v: %+v", c, after)
			}
			checkCkp(t, "the last number, safe or given up", j, c)
		}
	}
}

func TestP28WithOneUnderWay(t *testing.T) {
	for _, j := range sizedJobs() {
		for _, c := range []struct{ n, safe int }{{1, 0}, {7, 3}, {899, 0}, {899, 898}, {900, 0}, {900, 899}} {
			none := begun(j, c.n, c.safe)
			some := tellsTask(none, j.Tasks-1, someSnap(j.Sources, 8))
			for _, before := range []impl.CkpState{none, tellsSource(none, 0, 0), tellsSource(none, j.Sources-1, 40), some, tellsSource(some, 0, 17), allTell(none)} {
				if after := impl.CkpAsk(j, before); !sameCkp(after, before) || !after.Open || after.N != c.n {
					t.Errorf("%+v: %+v", before, after)
				}
				checkCkp(t, "one under way", j, before)
			}
		}
	}
}

func TestP28AskedAgainAndAgain(t *testing.T) {
	for _, j := range sizedJobs() {
		c := impl.CkpNew(j)
		for n := range 902 {
			c = impl.CkpAsk(j, c)
			if c.N != min(n+1, 900) || c.Open != (n < 900) || !sameSafe(c.Safe, impl.CkpNew(j).Safe) {
				t.Fatalf("asked %d times: %+v", n+1, c)
			}
			if !sameCkp(impl.CkpAsk(j, c), c) {
				t.Fatalf("asked twice: %+v", c)
			}
			c = impl.CkpDrop(j, c)
		}
	}
}

// ckpEdge is a way in which checkpoints may be turned, and whether they are ok behind it.
type ckpEdge struct {
	name string
	ok   bool
	turn func(*impl.CkpState)
}

// checkEdges turns checkpoints, for a job of each Kind, with two sources and two tasks.
func checkEdges(t *testing.T, plain impl.CkpState, edges []ckpEdge) {
	t.Helper()
	for _, e := range edges {
		c := ckpBy(plain, e.turn)
		for _, j := range eachKind() {
			if got := impl.CkpOk(j, c); got != e.ok || isCkp(j, c) != e.ok {
				t.Errorf("%s, %+v: %v", e.name, j, got)
			}
			checkCkp(t, e.name, j, c)
			if !e.ok {
				checkNoCkp(t, e.name, j, c)
			}
		}
	}
}

// plainSafe is what is safe in what the edges are of.
func plainSafe() impl.CkpSafe {
	return safe(3, []int{4, 0}, snap(operator(8, told(2, 3, 8, 2, one(5))), 8, 9), snap(operator(0), 0, 0))
}

// plainOpen is checkpoints with one under way, of which the first source and the first task have told.
func plainOpen() impl.CkpState {
	c := idle(5, plainSafe())
	c.Open, c.Src[0], c.Tsk[0] = true, 6, true
	c.Snaps[0] = snap(operator(12, told(1, 5, 10, 1, one(4)), untold(1, 10, 15, one(4))), 12, 20)
	return c
}

func TestCkpOkWithNoneUnderWay(t *testing.T) {
	checkEdges(t, idle(5, plainSafe()), []ckpEdge{
		{"as it is", true, func(c *impl.CkpState) {}},
		{"N 4", true, func(c *impl.CkpState) { c.N = 4 }},
		{"N of what is safe", true, func(c *impl.CkpState) { c.N = 3 }},
		{"N below what is safe", false, func(c *impl.CkpState) { c.N = 2 }},
		{"N 0", false, func(c *impl.CkpState) { c.N = 0 }},
		{"N -1", false, func(c *impl.CkpState) { c.N = -1 }},
		{"N 900", true, func(c *impl.CkpState) { c.N = 900 }},
		{"N 901", false, func(c *impl.CkpState) { c.N = 901 }},
		{"N as great as can be", false, func(c *impl.CkpState) { c.N = math.MaxInt }},
		{"N as small as can be", false, func(c *impl.CkpState) { c.N = math.MinInt }},
		{"under way", true, func(c *impl.CkpState) { c.Open = true }},
		{"the first source has told", false, func(c *impl.CkpState) { c.Src[0] = 6 }},
		{"the last source has told", false, func(c *impl.CkpState) { c.Src[1] = 40 }},
		{"a source has told, of no item", false, func(c *impl.CkpState) { c.Src[1] = 0 }},
		{"all sources have told", false, func(c *impl.CkpState) { c.Src = []int{0, 0} }},
		{"the first task has told", false, func(c *impl.CkpState) { c.Tsk[0], c.Snaps[0] = true, someSnap(2, 1) }},
		{"the last task has told", false, func(c *impl.CkpState) { c.Tsk[1], c.Snaps[1] = true, someSnap(2, 1) }},
		{"a task has told nothing", false, func(c *impl.CkpState) { c.Tsk[1] = true }},
		{"something is kept of a task", false, func(c *impl.CkpState) { c.Snaps[1] = someSnap(2, 1) }},
		{"all have told", false, func(c *impl.CkpState) { *c = allTell(*c) }},
		{"Src -2", false, func(c *impl.CkpState) { c.Src[0] = -2 }},
		{"Src as small as can be", false, func(c *impl.CkpState) { c.Src[1] = math.MinInt }},
		{"a source less", false, func(c *impl.CkpState) { c.Src = c.Src[:1] }},
		{"a source more", false, func(c *impl.CkpState) { c.Src = append(c.Src, -1) }},
		{"a task less", false, func(c *impl.CkpState) { c.Tsk = c.Tsk[:1] }},
		{"a task more", false, func(c *impl.CkpState) { c.Tsk = append(c.Tsk, false) }},
		{"one less kept", false, func(c *impl.CkpState) { c.Snaps = c.Snaps[:1] }},
		{"one more kept", false, func(c *impl.CkpState) { c.Snaps = append(c.Snaps, impl.CkpSnap{}) }},
		{"nothing", false, func(c *impl.CkpState) { *c = impl.CkpState{} }},
	})
}

func TestCkpOkWithOneUnderWay(t *testing.T) {
	checkEdges(t, plainOpen(), []ckpEdge{
		{"as it is", true, func(c *impl.CkpState) {}},
		{"not under way", false, func(c *impl.CkpState) { c.Open = false }},
		{"N one more than what is safe", true, func(c *impl.CkpState) { c.N = 4 }},
		{"N of what is safe", false, func(c *impl.CkpState) { c.N = 3 }},
		{"N below what is safe", false, func(c *impl.CkpState) { c.N = 2 }},
		{"N 900", true, func(c *impl.CkpState) { c.N = 900 }},
		{"N 901", false, func(c *impl.CkpState) { c.N = 901 }},
		{"N as great as can be", false, func(c *impl.CkpState) { c.N = math.MaxInt }},
		{"N as small as can be", false, func(c *impl.CkpState) { c.N = math.MinInt }},
		{"N and that of what is safe 900", false, func(c *impl.CkpState) { c.N, c.Safe.N = 900, 900 }},
		{"N and that of what is safe 0", false, func(c *impl.CkpState) { c.N, c.Safe.N = 0, 0 }},
		{"nobody has told", true, func(c *impl.CkpState) { *c = idle(5, c.Safe); c.Open = true }},
		{"all have told", true, func(c *impl.CkpState) { *c = allTell(*c) }},
		{"Src of the first -2", false, func(c *impl.CkpState) { c.Src[0] = -2 }},
		{"Src of the first -1", true, func(c *impl.CkpState) { c.Src[0] = -1 }},
		{"Src of the first 0", true, func(c *impl.CkpState) { c.Src[0] = 0 }},
		{"Src of the first 40", true, func(c *impl.CkpState) { c.Src[0] = 40 }},
		{"Src of the first 41", false, func(c *impl.CkpState) { c.Src[0] = 41 }},
		{"Src of the last -2", false, func(c *impl.CkpState) { c.Src[1] = -2 }},
		{"Src of the last 40", true, func(c *impl.CkpState) { c.Src[1] = 40 }},
		{"Src of the last 41", false, func(c *impl.CkpState) { c.Src[1] = 41 }},
		{"Src as great as can be", false, func(c *impl.CkpState) { c.Src[1] = math.MaxInt }},
		{"Src as small as can be", false, func(c *impl.CkpState) { c.Src[1] = math.MinInt }},
		{"no source", false, func(c *impl.CkpState) { c.Src = nil }},
		{"a source less", false, func(c *impl.CkpState) { c.Src = c.Src[:1] }},
		{"a source more", false, func(c *impl.CkpState) { c.Src = append(c.Src, -1) }},
		{"a source more, that has told", false, func(c *impl.CkpState) { c.Src = append(c.Src, 5) }},
		{"many sources more", false, func(c *impl.CkpState) { c.Src = slices.Repeat([]int{5}, 1000) }},
		{"no task", false, func(c *impl.CkpState) { c.Tsk, c.Snaps = nil, nil }},
		{"a task less", false, func(c *impl.CkpState) { c.Tsk = c.Tsk[:1] }},
		{"a task less, and what is kept of it", false, func(c *impl.CkpState) { c.Tsk, c.Snaps = c.Tsk[:1], c.Snaps[:1] }},
		{"a task more", false, func(c *impl.CkpState) { c.Tsk = append(c.Tsk, false) }},
		{"a task more, and what is kept of it", false, func(c *impl.CkpState) { c.Tsk, c.Snaps = append(c.Tsk, true), append(c.Snaps, c.Snaps[0]) }},
		{"many tasks more", false, func(c *impl.CkpState) { c.Tsk = slices.Repeat([]bool{true}, 1000) }},
		{"nothing kept of all", false, func(c *impl.CkpState) { c.Snaps = nil }},
		{"one less kept", false, func(c *impl.CkpState) { c.Snaps = c.Snaps[:1] }},
		{"one more kept", false, func(c *impl.CkpState) { c.Snaps = append(c.Snaps, impl.CkpSnap{}) }},
		{"many more kept", false, func(c *impl.CkpState) { c.Snaps = slices.Repeat(c.Snaps, 500) }},
	})
}

// keptEdges is what may be wrong with what is kept of a task that has told: Mark 12, and marks 12 and 20.
func keptEdges(of func(*impl.CkpState) *impl.CkpSnap) []ckpEdge {
	edge := func(name string, ok bool, turn func(*impl.CkpSnap)) ckpEdge {
		return ckpEdge{name, ok, func(c *impl.CkpState) { turn(of(c)) }}
	}
	return []ckpEdge{
		edge("as it is", true, func(s *impl.CkpSnap) {}),
		edge("nothing", false, func(s *impl.CkpSnap) { *s = impl.CkpSnap{} }),
		edge("a new operator, and noughts", true, func(s *impl.CkpSnap) { *s = snap(operator(0), 0, 0) }),
		edge("no rows", true, func(s *impl.CkpSnap) { s.Op.Rows = nil }),
		edge("a row of nothing", false, func(s *impl.CkpSnap) { s.Op.Rows = []impl.OpRow{{}} }),
		edge("a row that should have been told", false, func(s *impl.CkpSnap) { s.Op.Rows[0].Told = 0 }),
		edge("a row that is over", false, func(s *impl.CkpSnap) { s.Op.Rows[0] = told(1, 3, 8, 1, one(4)) }),
		edge("rows in another order", false, func(s *impl.CkpSnap) { slices.Reverse(s.Op.Rows) }),
		edge("an operator's Mark below 0", false, func(s *impl.CkpSnap) { *s = snap(operator(-1), -1, 20) }),
		edge("an operator's Mark behind the end", false, func(s *impl.CkpSnap) { *s = snap(operator(1001), 1001, 1001) }),
		edge("an operator's Mark less than the least", false, func(s *impl.CkpSnap) { s.Op.Mark = 11 }),
		edge("an operator's Mark more than the least", false, func(s *impl.CkpSnap) { s.Op.Mark = 13 }),
		edge("an operator's Mark the greatest", false, func(s *impl.CkpSnap) { s.Op = operator(20) }),
		edge("no mark", false, func(s *impl.CkpSnap) { s.Marks = nil }),
		edge("no mark, of a new operator", false, func(s *impl.CkpSnap) { *s = snap(operator(0)) }),
		edge("no mark, at the end", false, func(s *impl.CkpSnap) { *s = snap(operator(1000)) }),
		edge("a mark less", false, func(s *impl.CkpSnap) { s.Marks = s.Marks[:1] }),
		edge("a mark more", false, func(s *impl.CkpSnap) { s.Marks = append(s.Marks, 20) }),
		edge("many marks more", false, func(s *impl.CkpSnap) { s.Marks = slices.Repeat(s.Marks, 500) }),
		edge("the least mark last", true, func(s *impl.CkpSnap) { slices.Reverse(s.Marks) }),
		edge("both marks the least", true, func(s *impl.CkpSnap) { s.Marks[1] = 12 }),
		edge("a mark below the operator's", false, func(s *impl.CkpSnap) { s.Marks[1] = 11 }),
		edge("no mark the operator's", false, func(s *impl.CkpSnap) { s.Marks[0] = 13 }),
		edge("the first mark -1", false, func(s *impl.CkpSnap) { s.Marks[0] = -1 }),
		edge("the last mark -1", false, func(s *impl.CkpSnap) { s.Marks[1] = -1 }),
		edge("a mark 0", false, func(s *impl.CkpSnap) { s.Marks[1] = 0 }),
		edge("a mark 999", true, func(s *impl.CkpSnap) { s.Marks[1] = 999 }),
		edge("a mark of the end", true, func(s *impl.CkpSnap) { s.Marks[1] = 1000 }),
		edge("a mark behind the end", false, func(s *impl.CkpSnap) { s.Marks[1] = 1001 }),
		edge("a mark as great as can be", false, func(s *impl.CkpSnap) { s.Marks[1] = math.MaxInt }),
		edge("a mark as small as can be", false, func(s *impl.CkpSnap) { s.Marks[0] = math.MinInt }),
		edge("all at the end", true, func(s *impl.CkpSnap) { *s = snap(operator(1000), 1000, 1000) }),
		edge("all marks behind the end", false, func(s *impl.CkpSnap) { *s = snap(operator(1000), 1001, 1001) }),
	}
}

func TestCkpOkOfWhatIsKept(t *testing.T) {
	kept := plainOpen().Snaps[0]
	last := ckpBy(plainOpen(), func(c *impl.CkpState) { c.Tsk, c.Snaps = []bool{false, true}, []impl.CkpSnap{{}, kept} })
	checkEdges(t, plainOpen(), keptEdges(func(c *impl.CkpState) *impl.CkpSnap { return &c.Snaps[0] }))
	checkEdges(t, last, keptEdges(func(c *impl.CkpState) *impl.CkpSnap { return &c.Snaps[1] }))
	for at := range 2 {
		for _, c := range []impl.CkpState{idle(5, plainSafe()), plainOpen(), allTell(plainOpen())} {
			c.Safe.Snaps[at] = kept
			checkEdges(t, c, keptEdges(func(c *impl.CkpState) *impl.CkpSnap { return &c.Safe.Snaps[at] }))
		}
	}
}

func TestCkpOkOfWhatIsKeptWithRowsInPlenty(t *testing.T) {
	j := plainJob(impl.WinSlide, 6, 2)
	for n, ok := range map[int]bool{299: true, 300: true, 301: false} {
		full := snap(operator(3, manyRows(n)...), 4, 3)
		told := ckpBy(plainOpen(), func(c *impl.CkpState) { c.Snaps[0] = full })
		kept := ckpBy(plainOpen(), func(c *impl.CkpState) { c.Safe.Snaps[1] = full })
		if impl.CkpOk(j, told) != ok || impl.CkpOk(j, kept) != ok {
			t.Errorf("%d rows", n)
		}
		checkCkp(t, "rows in plenty", j, told)
		checkCkp(t, "rows in plenty", j, kept)
	}
}

// What is kept of a task that has not told is nothing, and no mark of it is, not even 0.
func TestCkpOkOfWhoHasNotTold(t *testing.T) {
	open := ckpBy(plainOpen(), func(c *impl.CkpState) { c.Tsk[0], c.Snaps[0] = false, impl.CkpSnap{} })
	for _, plain := range []impl.CkpState{open, idle(5, plainSafe())} {
		for at := range 2 {
			checkEdges(t, plain, []ckpEdge{
				{"as it is", true, func(c *impl.CkpState) {}},
				{"empty lists", true, func(c *impl.CkpState) {
					c.Snaps[at] = impl.CkpSnap{Op: impl.OpState{Rows: []impl.OpRow{}}, Marks: []int{}}
				}},
				{"a Mark", false, func(c *impl.CkpState) { c.Snaps[at].Op.Mark = 1 }},
				{"a Mark below 0", false, func(c *impl.CkpState) { c.Snaps[at].Op.Mark = -1 }},
				{"a row", false, func(c *impl.CkpState) { c.Snaps[at].Op.Rows = []impl.OpRow{untold(1, 10, 15, one(4))} }},
				{"a row of nothing", false, func(c *impl.CkpState) { c.Snaps[at].Op.Rows = []impl.OpRow{{}} }},
				{"a mark of 0", false, func(c *impl.CkpState) { c.Snaps[at].Marks = []int{0} }},
				{"a mark of each source", false, func(c *impl.CkpState) { c.Snaps[at].Marks = []int{0, 0} }},
				{"all of what would be ok", false, func(c *impl.CkpState) { c.Snaps[at] = someSnap(2, 4) }},
			})
		}
	}
}

func TestCkpOkOfWhatIsSafe(t *testing.T) {
	for _, plain := range []impl.CkpState{idle(900, plainSafe()), ckpBy(plainOpen(), func(c *impl.CkpState) { c.N = 900 })} {
		checkEdges(t, plain, []ckpEdge{
			{"as it is", true, func(c *impl.CkpState) {}},
			{"N 0", true, func(c *impl.CkpState) { c.Safe.N = 0 }},
			{"N below 0", false, func(c *impl.CkpState) { c.Safe.N = -1 }},
			{"N and the last below 0", false, func(c *impl.CkpState) { c.N, c.Safe.N = -1, -2 }},
			{"N 899", true, func(c *impl.CkpState) { c.Safe.N = 899 }},
			{"N 900", !plain.Open, func(c *impl.CkpState) { c.Safe.N = 900 }},
			{"N 901", false, func(c *impl.CkpState) { c.Safe.N = 901 }},
			{"N and the last 901", false, func(c *impl.CkpState) { c.N, c.Safe.N = 901, 901 }},
			{"N 901, and the last one more", false, func(c *impl.CkpState) { c.N, c.Safe.N = 902, 901 }},
			{"N as great as can be", false, func(c *impl.CkpState) { c.Safe.N = math.MaxInt }},
			{"N as small as can be", false, func(c *impl.CkpState) { c.Safe.N = math.MinInt }},
			{"At of the first -1", false, func(c *impl.CkpState) { c.Safe.At[0] = -1 }},
			{"At of the first 0", true, func(c *impl.CkpState) { c.Safe.At[0] = 0 }},
			{"At of the first 40", true, func(c *impl.CkpState) { c.Safe.At[0] = 40 }},
			{"At of the first 41", false, func(c *impl.CkpState) { c.Safe.At[0] = 41 }},
			{"At of the last -1", false, func(c *impl.CkpState) { c.Safe.At[1] = -1 }},
			{"At of the last 40", true, func(c *impl.CkpState) { c.Safe.At[1] = 40 }},
			{"At of the last 41", false, func(c *impl.CkpState) { c.Safe.At[1] = 41 }},
			{"At as great as can be", false, func(c *impl.CkpState) { c.Safe.At[1] = math.MaxInt }},
			{"At as small as can be", false, func(c *impl.CkpState) { c.Safe.At[1] = math.MinInt }},
			{"no At", false, func(c *impl.CkpState) { c.Safe.At = nil }},
			{"an At less", false, func(c *impl.CkpState) { c.Safe.At = c.Safe.At[:1] }},
			{"an At more", false, func(c *impl.CkpState) { c.Safe.At = append(c.Safe.At, 0) }},
			{"nothing kept", false, func(c *impl.CkpState) { c.Safe.Snaps = nil }},
			{"one less kept", false, func(c *impl.CkpState) { c.Safe.Snaps = c.Safe.Snaps[:1] }},
			{"one more kept", false, func(c *impl.CkpState) { c.Safe.Snaps = append(c.Safe.Snaps, c.Safe.Snaps[0]) }},
			{"nothing safe", false, func(c *impl.CkpState) { c.Safe = impl.CkpSafe{} }},
		})
	}
}

func TestCkpOkForAJobThatIsNot(t *testing.T) {
	for _, j := range brokenJobs() {
		for sources := 1; sources <= 3; sources++ {
			for tasks := 1; tasks <= 2; tasks++ {
				c := impl.CkpNew(plainSized(sources, tasks))
				checkNoCkp(t, "the beginning, of a job that is not ok", j, c)
				c.N, c.Open = 1, true
				checkNoCkp(t, "all have told, of a job that is not ok", j, allTell(c))
			}
		}
		checkNoCkp(t, "nothing, of a job that is not ok", j, impl.CkpState{})
	}
}

// plainSized is a job that is ok, of so many sources and tasks.
func plainSized(sources, tasks int) impl.JobJob {
	return withTasks(plainJob(impl.WinFixed, 5, 0), sources, tasks)
}

func TestCkpOkForAJobOfOtherSizes(t *testing.T) {
	for _, j := range sizedJobs() {
		for _, o := range sizedJobs() {
			same := j.Sources == o.Sources && j.Tasks == o.Tasks
			open := ckpBy(impl.CkpNew(o), func(c *impl.CkpState) { c.N, c.Open = 1, true })
			for _, c := range []impl.CkpState{impl.CkpNew(o), open, allTell(open)} {
				if impl.CkpOk(j, c) != same {
					t.Fatalf("%+v: %+v", j, c)
				}
				checkCkp(t, "of another job", j, c)
			}
		}
	}
}

func TestCkpOkOfAny(t *testing.T) {
	r := fixed()
	fine, broken, ready := 0, 0, 0
	for range 15000 {
		j := anyJob(r)
		c := anyCkp(r, j)
		if !impl.CkpOk(j, c) {
			t.Fatalf("%+v %+v is not ok", j, c)
		}
		checkCkp(t, "any that are ok", j, c)
		b := brokenCkp(r, c)
		checkCkp(t, "any that are turned", j, b)
		if impl.CkpReady(j, c) {
			ready++
		}
		if impl.CkpOk(j, b) {
			fine++
		} else {
			broken++
		}
	}
	if fine < 500 || broken < 500 || ready < 500 {
		t.Fatalf("%d are ok, %d are not, %d are ready", fine, broken, ready)
	}
}
