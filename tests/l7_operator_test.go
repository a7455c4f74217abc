package tests

import (
	"cmp"
	"math"
	"math/rand"
	"slices"
	"testing"

	"loop.example/freshet/impl"
)

func TestNumbersOfOperators(t *testing.T) {
	if impl.OpMaxRows != 300 {
		t.Fatal(impl.OpMaxRows)
	}
}

// untold is a row that was not told: all of what it knows is new.
func untold(key, start, end int, a impl.AggAgg) impl.OpRow {
	return impl.OpRow{Key: key, Win: win(start, end), All: a, Fresh: a}
}

// told is a row that was told so many times.
func told(key, start, end, times int, a impl.AggAgg) impl.OpRow {
	return impl.OpRow{Key: key, Win: win(start, end), All: a, Told: times, Timely: true}
}

func operator(mark int, rows ...impl.OpRow) impl.OpState {
	return impl.OpState{Mark: mark, Rows: rows}
}

func sameOperator(a, b impl.OpState) bool {
	return a.Mark == b.Mark && slices.Equal(a.Rows, b.Rows)
}

// withLate is a job with another Late, and another Piece.
func withLate(j impl.JobJob, late int, piece bool) impl.JobJob {
	j.Late, j.Piece = late, piece
	return j
}

// bothPieces is a job that tells all that is known, and the same one that tells what is new.
func bothPieces(j impl.JobJob) []impl.JobJob {
	return []impl.JobJob{withLate(j, j.Late, false), withLate(j, j.Late, true)}
}

// byPlace holds rows against each other by Key, Start and End.
func byPlace(a, b impl.OpRow) int {
	return cmp.Or(cmp.Compare(a.Key, b.Key), cmp.Compare(a.Win.Start, b.Win.Start), cmp.Compare(a.Win.End, b.Win.End))
}

// isOpen says whether a row may stand in an operator with that Mark, from the document's words.
func isOpen(r impl.OpRow, mark, late int) bool {
	switch {
	case r.Key < 0 || r.Key > 3 || !isWindow(r.Win) || !isKnown(r.All) || !isKnown(r.Fresh):
		return false
	case r.All.N < 1 || r.Fresh.N > r.All.N || r.Told < 0 || r.Told > 1500:
		return false
	case mark >= r.Win.End+late:
		return false
	case mark >= r.Win.End:
		return r.Timely && r.Told > 0 && r.Fresh == impl.AggAgg{}
	}
	return !r.Timely && r.Told == 0 && r.Fresh != impl.AggAgg{}
}

// isOperator says the same as OpOk, from the document's words, with each two rows held against each other.
func isOperator(j impl.JobJob, s impl.OpState) bool {
	if !isJob(j) || s.Mark < 0 || s.Mark > 1000 || len(s.Rows) > 300 {
		return false
	}
	for i, a := range s.Rows {
		if !isOpen(a, s.Mark, j.Late) {
			return false
		}
		for _, b := range s.Rows[:i] {
			if byPlace(b, a) >= 0 || j.Kind == impl.WinSess && a.Key == b.Key && common(a.Win, b.Win) {
				return false
			}
		}
	}
	return true
}

// clerk does what the document says of an operator, word by word, in a list of rows.
type clerk struct {
	j     impl.JobJob
	s     impl.OpState
	panes []impl.PanPane
	lates []impl.LatPair
}

func clerkOf(j impl.JobJob, s impl.OpState) *clerk {
	return &clerk{j: j, s: impl.OpState{Mark: s.Mark, Rows: slices.Clone(s.Rows)}}
}

// tell tells of the row at a place of the list.
func (c *clerk) tell(i, kind int) {
	r := &c.s.Rows[i]
	p := impl.PanPane{Key: r.Key, Win: r.Win, No: r.Told, Kind: kind, Agg: r.All}
	if c.j.Piece {
		p.Agg = r.Fresh
	}
	c.panes = append(c.panes, p)
	r.Told++
	r.Timely = true
	r.Fresh = impl.AggAgg{}
}

// at is the place of the row of a window of a key, which is put in, if there is none.
func (c *clerk) at(key int, w impl.WinWin) int {
	r := impl.OpRow{Key: key, Win: w}
	i := 0
	for i < len(c.s.Rows) && byPlace(c.s.Rows[i], r) < 0 {
		i++
	}
	if i == len(c.s.Rows) || byPlace(c.s.Rows[i], r) != 0 {
		c.s.Rows = slices.Insert(c.s.Rows, i, r)
	}
	return i
}

// add adds a value to the row of a window of a key.
func (c *clerk) add(key int, w impl.WinWin, v int) {
	i := c.at(key, w)
	r := &c.s.Rows[i]
	r.All, r.Fresh = impl.AggAdd(r.All, v), impl.AggAdd(r.Fresh, v)
	if c.s.Mark >= w.End && r.Timely {
		c.tell(i, impl.PanLate)
	} else if c.s.Mark >= w.End {
		c.tell(i, impl.PanTimely)
	}
}

func (c *clerk) takePlain(x impl.ItmItem, w impl.WinWin) {
	if c.s.Mark >= w.End+c.j.Late {
		c.lates = append(c.lates, impl.LatPair{Rec: x, Win: w})
		return
	}
	c.add(x.Key, w, x.V)
}

func (c *clerk) takeSession(x impl.ItmItem, w impl.WinWin) {
	span := w
	var met, others []impl.OpRow
	for _, r := range c.s.Rows {
		if r.Key == x.Key && common(r.Win, w) {
			met = append(met, r)
			span = win(min(span.Start, r.Win.Start), max(span.End, r.Win.End))
		} else {
			others = append(others, r)
		}
	}
	if c.s.Mark >= span.End+c.j.Late {
		c.lates = append(c.lates, impl.LatPair{Rec: x, Win: w})
		return
	}
	if len(met) == 1 && met[0].Win == span {
		c.add(x.Key, span, x.V)
		return
	}
	c.s.Rows = others
	all := one(x.V)
	for _, r := range met {
		all = impl.AggBoth(all, r.All)
		if r.Told > 0 {
			c.panes = append(c.panes, gone(r.Key, r.Win.Start, r.Win.End, r.Told))
		}
	}
	i := c.at(x.Key, span)
	c.s.Rows[i].All, c.s.Rows[i].Fresh = all, all
	if c.s.Mark >= span.End {
		c.tell(i, impl.PanTimely)
	}
}

// taken says the same as OpTake, from the document's words.
func taken(j impl.JobJob, s impl.OpState, x impl.ItmItem) (impl.OpState, []impl.PanPane, []impl.LatPair) {
	if !isOperator(j, s) || x.Kind != impl.ItmRec || !impl.ItmOk(x) || len(s.Rows) > 280 {
		return impl.OpState{}, nil, nil
	}
	c := clerkOf(j, s)
	for _, w := range windowsOf(j, x.T) {
		if j.Kind == impl.WinSess {
			c.takeSession(x, w)
		} else {
			c.takePlain(x, w)
		}
	}
	return c.s, c.panes, c.lates
}

// marked says the same as OpMark, from the document's words.
func marked(j impl.JobJob, s impl.OpState, to int) (impl.OpState, []impl.PanPane) {
	if !isOperator(j, s) || to < 0 || to > 1000 {
		return impl.OpState{}, nil
	}
	c := clerkOf(j, s)
	if to <= s.Mark {
		return c.s, nil
	}
	c.s.Mark = to
	for i, r := range c.s.Rows {
		if !r.Timely && r.Win.End <= to {
			c.tell(i, impl.PanTimely)
		}
	}
	c.s.Rows = slices.DeleteFunc(c.s.Rows, func(r impl.OpRow) bool { return to >= r.Win.End+j.Late })
	return c.s, c.panes
}

// checkTake holds OpTake against the document's words.
func checkTake(t *testing.T, j impl.JobJob, s impl.OpState, x impl.ItmItem) (impl.OpState, []impl.PanPane, []impl.LatPair) {
	t.Helper()
	after, panes, lates := impl.OpTake(j, s, x)
	wantAfter, wantPanes, wantLates := taken(j, s, x)
	if !sameOperator(after, wantAfter) || !slices.Equal(panes, wantPanes) || !slices.Equal(lates, wantLates) {
		t.Fatalf("%+v, %+v takes %v: %+v %v %v, not %+v %v %v", j, s, x, after, panes, lates, wantAfter, wantPanes, wantLates)
	}
	return after, panes, lates
}

// checkMark holds OpMark against the document's words.
func checkMark(t *testing.T, j impl.JobJob, s impl.OpState, to int) (impl.OpState, []impl.PanPane) {
	t.Helper()
	after, panes := impl.OpMark(j, s, to)
	wantAfter, wantPanes := marked(j, s, to)
	if !sameOperator(after, wantAfter) || !slices.Equal(panes, wantPanes) {
		t.Fatalf("%+v, %+v, mark %d: %+v %v, not %+v %v", j, s, to, after, panes, wantAfter, wantPanes)
	}
	return after, panes
}

// openRow is a row of some values that may stand in an operator with that Mark, unless the window is over for Late.
func openRow(r *rand.Rand, key int, w impl.WinWin, mark int) impl.OpRow {
	values := someValues(r, 1+r.Intn(5))
	x := impl.OpRow{Key: key, Win: w, All: knownOf(values)}
	if mark >= w.End {
		x.Told, x.Timely = 1+r.Intn(4), true
	} else {
		x.Fresh = knownOf(values[:1+r.Intn(len(values))])
	}
	return x
}

// anyOperator is an operator that is ok, with at most so many rows around its Mark, of the job's windows and now and then of another one.
func anyOperator(r *rand.Rand, j impl.JobJob, most int) impl.OpState {
	s := impl.OpState{Mark: r.Intn(85)}
	if r.Intn(6) == 0 {
		s.Mark = pick(r, []int{0, 1, 60, 80, 100, 119, 120, 140, 999, 1000})
	}
	var rows []impl.OpRow
	for range r.Intn(most + 1) {
		at := min(max(s.Mark-25+r.Intn(45), 0), 60)
		w := pick(r, windowsOf(j, at))
		if r.Intn(5) == 0 {
			w = win(at, at+1+r.Intn(30))
		}
		rows = append(rows, openRow(r, r.Intn(4), w, s.Mark))
	}
	slices.SortStableFunc(rows, byPlace)
	for _, x := range rows {
		if with := append(slices.Clone(s.Rows), x); isOperator(j, impl.OpState{Mark: s.Mark, Rows: with}) {
			s.Rows = with
		}
	}
	return s
}

// nearRec is a record that is ok, more often than not around a mark.
func nearRec(r *rand.Rand, mark int) impl.ItmItem {
	x := someRecs(r, 1, 60, 4)[0]
	if r.Intn(4) > 0 {
		x.T = min(max(mark-25+r.Intn(40), 0), 60)
	}
	return x
}

// brokenOperator is an operator of which some numbers are any others, or whose rows are in another order, or doubled.
func brokenOperator(r *rand.Rand, s impl.OpState) impl.OpState {
	b := impl.OpState{Mark: s.Mark, Rows: slices.Clone(s.Rows)}
	if r.Intn(6) == 0 {
		b.Mark = pick(r, edges)
	}
	if len(b.Rows) == 0 {
		b.Rows = append(b.Rows, impl.OpRow{})
	}
	x := &b.Rows[r.Intn(len(b.Rows))]
	of := []*int{&x.Key, &x.Win.Start, &x.Win.End, &x.All.N, &x.All.Sum, &x.All.Least, &x.All.Most, &x.Fresh.N, &x.Fresh.Sum, &x.Fresh.Least, &x.Fresh.Most, &x.Told}
	switch r.Intn(6) {
	case 0:
		x.Timely = !x.Timely
	case 1:
		b.Rows = append(b.Rows, *x)
	case 2:
		r.Shuffle(len(b.Rows), func(i, k int) { b.Rows[i], b.Rows[k] = b.Rows[k], b.Rows[i] })
	case 3:
		*pick(r, of) += r.Intn(3) - 1
	default:
		for range 1 + r.Intn(2) {
			*pick(r, of) = pick(r, edges)
		}
	}
	return b
}

// manyRows is so many rows of windows that are not over, in order, of no sessions.
func manyRows(n int) []impl.OpRow {
	var rows []impl.OpRow
	for key := 0; key <= 3; key++ {
		for start := 0; start <= 60; start++ {
			for long := 10; long <= 12; long++ {
				if len(rows) < n {
					rows = append(rows, untold(key, start, start+long, one(4)))
				}
			}
		}
	}
	return rows
}

func TestP37OkAtEachEdge(t *testing.T) {
	a, b := agg(3, 6, 1, 3), agg(2, 3, 1, 2)
	turn := func(r impl.OpRow, by func(*impl.OpRow)) impl.OpRow {
		by(&r)
		return r
	}
	open, over := untold(1, 5, 10, a), told(1, 5, 10, 1, a)
	for _, c := range []struct {
		name string
		s    impl.OpState
		ok   bool
	}{
		{"a new one", operator(0), true}, {"no rows", operator(7), true}, {"one row", operator(7, open), true}, {"one that was told", operator(10, over), true},
		{"Mark -1", operator(-1), false}, {"Mark -1, one row", operator(-1, open), false}, {"Mark 0, one row", operator(0, open), true}, {"Mark 1000", operator(1000), true}, {"Mark 1001", operator(1001), false},
		{"Mark least", operator(math.MinInt, open), false}, {"Mark most", operator(math.MaxInt), false}, {"Mark most, one row", operator(math.MaxInt, over), false},
		{"Mark below End", operator(9, open), true}, {"Mark is End, and it was not told", operator(10, open), false}, {"Mark below End, and it was told", operator(9, over), false}, {"Mark is End", operator(10, over), true},
		{"Mark below End + Late", operator(13, over), true}, {"Mark is End + Late", operator(14, over), false}, {"Mark behind End + Late", operator(15, over), false}, {"Mark is End + Late, and it was not told", operator(14, open), false}, {"Mark 1000, one row", operator(1000, over), false},
		{"Key -1", operator(7, untold(-1, 5, 10, a)), false}, {"Key 0", operator(7, untold(0, 5, 10, a)), true}, {"Key 3", operator(7, untold(3, 5, 10, a)), true}, {"Key 4", operator(7, untold(4, 5, 10, a)), false},
		{"no window", operator(7, untold(1, 10, 10, a)), false}, {"a window the other way round", operator(7, untold(1, 10, 9, a)), false}, {"a window below 0", operator(7, untold(1, -1, 10, a)), false}, {"a window that is as late as may be", operator(7, untold(1, 60, 120, a)), true},
		{"one that begins later", operator(7, untold(1, 61, 62, a)), false}, {"one that ends later", operator(7, untold(1, 60, 121, a)), false}, {"one of no job's", operator(7, untold(1, 3, 8, a)), true}, {"as short as may be", operator(7, untold(1, 7, 8, a)), true},
		{"nothing known", operator(7, untold(1, 5, 10, impl.AggAgg{})), false}, {"nothing known, and told", operator(10, told(1, 5, 10, 1, impl.AggAgg{})), false},
		{"of as many as may be", operator(7, untold(1, 5, 10, agg(1000, 0, -9, 9))), true}, {"of one more", operator(7, untold(1, 5, 10, agg(1001, 0, -9, 9))), false}, {"All is not ok", operator(7, untold(1, 5, 10, agg(1, 3, 2, 2))), false}, {"All is not ok, and told", operator(10, told(1, 5, 10, 1, agg(1, 3, 2, 2))), false},
		{"Fresh of fewer", operator(7, turn(open, func(r *impl.OpRow) { r.Fresh = b })), true}, {"Fresh of more", operator(7, turn(open, func(r *impl.OpRow) { r.Fresh = agg(4, 8, 1, 3) })), false}, {"Fresh of as many, but others", operator(7, turn(open, func(r *impl.OpRow) { r.Fresh = agg(3, 27, 9, 9) })), true},
		{"Fresh of none", operator(7, turn(open, func(r *impl.OpRow) { r.Fresh = impl.AggAgg{} })), false}, {"Fresh is not ok", operator(7, turn(open, func(r *impl.OpRow) { r.Fresh = agg(1, 3, 2, 2) })), false}, {"Fresh below none", operator(7, turn(open, func(r *impl.OpRow) { r.Fresh = agg(-1, 0, 0, 0) })), false},
		{"Fresh, and told", operator(10, turn(over, func(r *impl.OpRow) { r.Fresh = b })), false}, {"all Fresh, and told", operator(10, turn(over, func(r *impl.OpRow) { r.Fresh = a })), false}, {"Fresh of none with a sum, and told", operator(10, turn(over, func(r *impl.OpRow) { r.Fresh = agg(0, 1, 0, 0) })), false},
		{"Told -1", operator(7, turn(open, func(r *impl.OpRow) { r.Told = -1 })), false}, {"Told 1, and not over", operator(7, turn(open, func(r *impl.OpRow) { r.Told = 1 })), false},
		{"Told 0, and over", operator(10, told(1, 5, 10, 0, a)), false}, {"Told -1, and over", operator(10, told(1, 5, 10, -1, a)), false}, {"Told 2", operator(10, told(1, 5, 10, 2, a)), true}, {"Told 1500", operator(10, told(1, 5, 10, 1500, a)), true}, {"Told 1501", operator(10, told(1, 5, 10, 1501, a)), false}, {"Told most", operator(10, told(1, 5, 10, math.MaxInt, a)), false},
		{"Timely, and not over", operator(7, turn(open, func(r *impl.OpRow) { r.Timely = true })), false}, {"over, and not Timely", operator(10, turn(over, func(r *impl.OpRow) { r.Timely = false })), false},
		{"not over, told, and nothing Fresh, but not Timely", operator(7, turn(over, func(r *impl.OpRow) { r.Timely = false })), false},
		{"the first of two is wrong", operator(10, untold(1, 4, 9, a), over), false}, {"the second of two is wrong", operator(10, over, untold(2, 4, 9, a)), false}, {"one told, one not", operator(10, over, untold(1, 10, 15, a)), true},
	} {
		for _, j := range eachKind() {
			if got := impl.OpOk(j, c.s); got != c.ok {
				t.Errorf("%s, %+v, %+v: %v", c.name, j, c.s, got)
			}
			if got := isOperator(j, c.s); got != c.ok {
				t.Errorf("%s, %+v, %+v: the oracle says %v", c.name, j, c.s, got)
			}
		}
	}
}

func TestP37RowsInOrder(t *testing.T) {
	a := one(4)
	for _, c := range []struct {
		name        string
		s           impl.OpState
		plain, sess bool
	}{
		{"by Key", operator(0, untold(0, 9, 14, a), untold(1, 5, 10, a)), true, true},
		{"against Key", operator(0, untold(1, 5, 10, a), untold(0, 9, 14, a)), false, false},
		{"by Start", operator(0, untold(1, 5, 10, a), untold(1, 15, 20, a)), true, true},
		{"against Start", operator(0, untold(1, 15, 20, a), untold(1, 5, 10, a)), false, false},
		{"by Start, touching just not", operator(0, untold(1, 5, 10, a), untold(1, 10, 15, a)), true, true},
		{"by Start, touching just so", operator(0, untold(1, 5, 10, a), untold(1, 9, 14, a)), true, false},
		{"against Start, touching", operator(0, untold(1, 9, 14, a), untold(1, 5, 10, a)), false, false},
		{"by End", operator(0, untold(1, 5, 10, a), untold(1, 5, 11, a)), true, false},
		{"against End", operator(0, untold(1, 5, 11, a), untold(1, 5, 10, a)), false, false},
		{"one in the other", operator(0, untold(1, 5, 20, a), untold(1, 6, 11, a)), true, false},
		{"one twice", operator(0, untold(1, 5, 10, a), untold(1, 5, 10, a)), false, false},
		{"one twice, with other values", operator(0, untold(1, 5, 10, a), untold(1, 5, 10, one(5))), false, false},
		{"one twice, of two keys", operator(0, untold(1, 5, 10, a), untold(2, 5, 10, a)), true, true},
		{"touching, of two keys", operator(0, untold(1, 5, 10, a), untold(2, 9, 14, a)), true, true},
		{"touching, of two keys, the earlier one behind", operator(0, untold(1, 9, 14, a), untold(2, 5, 10, a)), true, true},
		{"touching, told and not", operator(10, told(1, 5, 10, 1, a), untold(1, 9, 14, a)), true, false},
		{"three, the last against Start", operator(0, untold(1, 5, 10, a), untold(1, 20, 25, a), untold(1, 15, 20, a)), false, false},
		{"three, the last two touching", operator(0, untold(1, 0, 5, a), untold(1, 5, 10, a), untold(1, 9, 14, a)), true, false},
		{"three, the first in the last two", operator(0, untold(1, 0, 20, a), untold(1, 5, 10, a), untold(1, 19, 24, a)), true, false},
		{"three, with another key's between", operator(0, untold(0, 5, 10, a), untold(1, 7, 12, a), untold(2, 5, 10, a)), true, true},
	} {
		for _, j := range eachKind() {
			want := c.plain
			if j.Kind == impl.WinSess {
				want = c.sess
			}
			if got := impl.OpOk(j, c.s); got != want || isOperator(j, c.s) != want {
				t.Errorf("%s, %+v: %v", c.name, j, got)
			}
		}
	}
}

func TestP37HowManyRows(t *testing.T) {
	for _, n := range []int{0, 1, 279, 280, 281, 299, 300, 301, 302, 600} {
		s := operator(3, manyRows(n)...)
		for _, j := range eachKind() {
			if j.Kind == impl.WinSess {
				continue
			}
			if got := impl.OpOk(j, s); got != (n <= 300) {
				t.Errorf("%+v, %d rows: %v", j, n, got)
			}
			checkMark(t, j, s, 15)
		}
	}
	var rows []impl.OpRow
	for key := 0; key <= 3; key++ {
		for start := 0; start <= 60; start++ {
			rows = append(rows, untold(key, start, start+1, one(4)))
		}
	}
	if !impl.OpOk(plainJob(impl.WinSess, 1, 0), operator(0, rows...)) {
		t.Error("as many sessions as there may be")
	}
}

func TestP37OkForAJobThatIsNot(t *testing.T) {
	for _, j := range brokenJobs() {
		for _, s := range []impl.OpState{operator(0), operator(7), operator(7, untold(1, 5, 10, one(4))), operator(10, told(1, 5, 10, 1, one(4)))} {
			if impl.OpOk(j, s) {
				t.Fatalf("%+v %+v", j, s)
			}
			after, panes, lates := impl.OpTake(j, s, rec(7, 1, 4))
			marked, more := impl.OpMark(j, s, 12)
			if !sameOperator(after, operator(0)) || !sameOperator(marked, operator(0)) || len(panes)+len(lates)+len(more) != 0 {
				t.Fatalf("%+v %+v: %+v %v %v, %+v %v", j, s, after, panes, lates, marked, more)
			}
		}
	}
}

// Whether an operator is ok hangs on Kind and Late of the job alone.
func TestP37EachMarkAndEachLate(t *testing.T) {
	for late := 0; late <= 20; late++ {
		for _, j := range eachKind() {
			j = withLate(j, late, late%2 == 0)
			for mark := 0; mark <= 35; mark++ {
				for _, r := range []impl.OpRow{untold(2, 7, 12, one(-1)), told(2, 7, 12, 1, one(-1))} {
					want := mark < 12 && !r.Timely || mark >= 12 && mark < 12+late && r.Timely
					if got := impl.OpOk(j, operator(mark, r)); got != want {
						t.Fatalf("Late %d, Mark %d, %+v: %v", late, mark, r, got)
					}
				}
			}
		}
	}
}

func TestP37OkOfAnyOperator(t *testing.T) {
	r := fixed()
	fine := 0
	for range 30000 {
		j := anyJob(r)
		s := anyOperator(r, j, 6)
		if !impl.OpOk(j, s) {
			t.Fatalf("%+v %+v is not ok", j, s)
		}
		b := brokenOperator(r, s)
		if got := impl.OpOk(j, b); got != isOperator(j, b) {
			t.Fatalf("%+v %+v: %v", j, b, got)
		} else if got {
			fine++
		}
		k := anyNumbersJob(r)
		if got := impl.OpOk(k, s); got != isOperator(k, s) {
			t.Fatalf("%+v %+v: %v", k, s, got)
		}
	}
	if fine == 0 {
		t.Fatal("none is ok that was turned")
	}
}

// checkLeavesOk holds what a record and a mark lead to against the promise's words.
func checkLeavesOk(t *testing.T, j impl.JobJob, s impl.OpState, x impl.ItmItem, to int) {
	t.Helper()
	after, panes, _ := checkTake(t, j, s, x)
	if !impl.OpOk(j, after) || after.Mark != s.Mark {
		t.Fatalf("%+v, %+v takes %v: %+v is not ok", j, s, x, after)
	}
	for _, p := range panes {
		if !impl.PanOk(p) || p.Key != x.Key {
			t.Fatalf("%+v, %+v takes %v: %v", j, s, x, p)
		}
	}
	then, more := checkMark(t, j, s, to)
	if !impl.OpOk(j, then) || then.Mark != max(s.Mark, to) {
		t.Fatalf("%+v, %+v, mark %d: %+v is not ok", j, s, to, then)
	}
	for _, p := range more {
		if p.Kind != impl.PanTimely || !j.Piece && !impl.PanOk(p) {
			t.Fatalf("%+v, %+v, mark %d: %v", j, s, to, p)
		}
	}
}

func TestP37WhatIsOkStaysOk(t *testing.T) {
	r := fixed()
	for range 15000 {
		j := anyJob(r)
		s := anyOperator(r, j, 8)
		checkLeavesOk(t, j, s, nearRec(r, s.Mark), min(max(s.Mark-5+r.Intn(30), 0), 1000))
	}
	for range 40 {
		j := plainJob(impl.WinSlide, 10, 5)
		checkLeavesOk(t, j, operator(r.Intn(10), manyRows(280)...), nearRec(r, 15), r.Intn(60))
	}
}

func TestP37OnAndOn(t *testing.T) {
	r := fixed()
	for range 300 {
		j := anyJob(r)
		s := impl.OpState{}
		for range 120 {
			if r.Intn(4) == 0 {
				before := s
				s, _ = checkMark(t, j, s, r.Intn(70))
				if !impl.OpOk(j, s) || s.Mark < before.Mark {
					t.Fatalf("%+v, %+v: %+v", j, before, s)
				}
			} else {
				s, _, _ = checkTake(t, j, s, nearRec(r, s.Mark))
				if !impl.OpOk(j, s) {
					t.Fatalf("%+v, %+v", j, s)
				}
			}
		}
	}
}

func TestP38SomeWindowsAreOverForLate(t *testing.T) {
	x := rec(7, 1, 3)
	j := withLate(plainJob(impl.WinSlide, 6, 2), 4, false) // 2..8, 4..10 and 6..12
	first, second, third := lat(x, 2, 8), lat(x, 4, 10), lat(x, 6, 12)
	told := []impl.PanPane{timely(1, 2, 8, one(3)), timely(1, 4, 10, one(3)), timely(1, 6, 12, one(3))}
	for _, c := range []struct {
		mark, rows int
		panes      []impl.PanPane
		lates      []impl.LatPair
	}{
		{0, 3, nil, nil}, {7, 3, nil, nil}, {8, 3, told[:1], nil}, {9, 3, told[:1], nil}, {10, 3, told[:2], nil}, {11, 3, told[:2], nil},
		{12, 2, told[1:], []impl.LatPair{first}}, {13, 2, told[1:], []impl.LatPair{first}}, {14, 1, told[2:], []impl.LatPair{first, second}}, {15, 1, told[2:], []impl.LatPair{first, second}},
		{16, 0, nil, []impl.LatPair{first, second, third}}, {17, 0, nil, []impl.LatPair{first, second, third}}, {1000, 0, nil, []impl.LatPair{first, second, third}},
	} {
		for _, k := range bothPieces(j) {
			after, panes, lates := checkTake(t, k, operator(c.mark), x)
			if len(after.Rows) != c.rows || !slices.Equal(panes, c.panes) || !slices.Equal(lates, c.lates) {
				t.Errorf("Mark %d: %+v %v %v", c.mark, after, panes, lates)
			}
		}
	}
}

func TestP38TooLateByJustOne(t *testing.T) {
	x := rec(7, 1, 3)
	for _, c := range []struct {
		j    impl.JobJob
		last int // the greatest Mark at which it is not too late
		win  impl.WinWin
	}{
		{plainJob(impl.WinFixed, 5, 0), 13, win(5, 10)}, {withLate(plainJob(impl.WinFixed, 5, 0), 0, false), 9, win(5, 10)}, {withLate(plainJob(impl.WinFixed, 5, 0), 20, true), 29, win(5, 10)},
		{plainJob(impl.WinSess, 5, 0), 15, win(7, 12)}, {withLate(plainJob(impl.WinSess, 5, 0), 0, true), 11, win(7, 12)}, {withLate(plainJob(impl.WinSess, 1, 0), 0, false), 7, win(7, 8)},
		{plainJob(impl.WinSlide, 8, 8), 11, win(0, 8)}, {withLate(plainJob(impl.WinSlide, 8, 8), 20, false), 27, win(0, 8)},
	} {
		for mark := c.last - 1; mark <= c.last+2; mark++ {
			after, panes, lates := checkTake(t, c.j, operator(mark), x)
			if mark > c.last {
				if len(after.Rows) != 0 || len(panes) != 0 || !slices.Equal(lates, []impl.LatPair{{Rec: x, Win: c.win}}) {
					t.Errorf("%+v, Mark %d: %+v %v %v", c.j, mark, after, panes, lates)
				}
			} else if len(after.Rows) != 1 || after.Rows[0].Win != c.win || after.Rows[0].All != one(3) || len(lates) != 0 {
				t.Errorf("%+v, Mark %d: %+v %v %v", c.j, mark, after, panes, lates)
			}
		}
	}
}

// countIn is all N of All, together.
func countIn(s impl.OpState) int {
	n := 0
	for _, r := range s.Rows {
		n += r.All.N
	}
	return n
}

func TestP38OneMoreForEachWindow(t *testing.T) {
	r := fixed()
	partly, wholly := 0, 0
	for range 20000 {
		j := anyJob(r)
		s := anyOperator(r, j, 6)
		x := nearRec(r, s.Mark)
		after, panes, lates := checkTake(t, j, s, x)
		windows := impl.WinOf(j, x.T)
		if countIn(after)-countIn(s) != len(windows)-len(lates) {
			t.Fatalf("%+v, %+v takes %v: %+v %v", j, s, x, after, lates)
		}
		for _, l := range lates {
			if l.Rec != x || !slices.Contains(windows, l.Win) || !impl.LatOk(l) {
				t.Fatalf("%+v, %+v takes %v: %v", j, s, x, l)
			}
		}
		switch {
		case len(lates) == len(windows):
			wholly++
			if !sameOperator(after, s) || len(panes) != 0 {
				t.Fatalf("%+v, %+v takes %v: %+v %v", j, s, x, after, panes)
			}
		case len(lates) > 0:
			partly++
		}
	}
	if partly < 100 || wholly < 100 {
		t.Fatalf("too late for some: %d, for all: %d", partly, wholly)
	}
}

func TestP38WhatIsNoRecordThatIsOk(t *testing.T) {
	for _, j := range eachKind() {
		for _, s := range []impl.OpState{operator(0), operator(7), operator(7, untold(1, 5, 10, one(4))), operator(10, told(1, 5, 10, 1, one(4)))} {
			for _, x := range noRecords() {
				after, panes, lates := impl.OpTake(j, s, x)
				if !sameOperator(after, operator(0)) || len(panes)+len(lates) != 0 {
					t.Errorf("%+v, %+v takes %v: %+v %v %v", j, s, x, after, panes, lates)
				}
			}
		}
	}
}

func TestP38AnOperatorThatIsNotOk(t *testing.T) {
	r := fixed()
	for _, j := range eachKind() {
		for _, s := range []impl.OpState{
			operator(-1), operator(1001), operator(10, untold(1, 5, 10, one(4))), operator(9, told(1, 5, 10, 1, one(4))), operator(7, untold(4, 5, 10, one(4))), operator(0, untold(1, 5, 10, one(4)), untold(1, 0, 5, one(4))), operator(3, manyRows(301)...),
		} {
			after, panes, lates := impl.OpTake(j, s, rec(40, 1, 4))
			then, more := impl.OpMark(j, s, 30)
			if !sameOperator(after, operator(0)) || !sameOperator(then, operator(0)) || len(panes)+len(lates)+len(more) != 0 {
				t.Errorf("%+v, %+v: %+v %v %v, %+v %v", j, s, after, panes, lates, then, more)
			}
		}
	}
	for range 10000 {
		j := anyJob(r)
		s := brokenOperator(r, anyOperator(r, j, 5))
		checkTake(t, j, s, nearRec(r, 30))
		checkMark(t, j, s, r.Intn(60))
	}
}

func TestP38RowsThatThereIsRoomFor(t *testing.T) {
	fix, slide := plainJob(impl.WinFixed, 10, 0), plainJob(impl.WinSlide, 12, 3)
	for _, j := range []impl.JobJob{fix, slide} {
		for n := 277; n <= 300; n++ {
			s := operator(3, manyRows(n)...)
			for _, x := range []impl.ItmItem{rec(3, 0, 5), rec(3, 3, 5), rec(60, 3, 5), rec(0, 0, 5)} {
				after, panes, lates := checkTake(t, j, s, x)
				if n > 280 && (!sameOperator(after, operator(0)) || len(panes)+len(lates) != 0) {
					t.Fatalf("%+v, %d rows: %+v %v %v", j, n, after, panes, lates)
				}
				if n <= 280 && (countIn(after) != countIn(s)+len(impl.WinOf(j, x.T)) || !impl.OpOk(j, after)) {
					t.Fatalf("%+v, %d rows: %+v", j, n, after)
				}
			}
			if after, _ := checkMark(t, j, s, 4); after.Mark != 4 || len(after.Rows) != n {
				t.Fatalf("%+v, %d rows, mark: %+v", j, n, after)
			}
		}
	}
	full, _, _ := impl.OpTake(slide, operator(3, manyRows(280)...), rec(60, 3, 5))
	if after, panes, lates := impl.OpTake(slide, full, rec(60, 3, 5)); len(full.Rows) != 284 || !sameOperator(after, operator(0)) || len(panes)+len(lates) != 0 {
		t.Errorf("behind 280 rows: %d rows, %+v %v %v", len(full.Rows), after, panes, lates)
	}
}

// No word bars a row that knows of as many values as may be, or was told as often as may be: it counts on.
func TestP38BehindTheLastValueAndTheLastPane(t *testing.T) {
	many := agg(1000, 0, -9, 9)
	for _, j := range []impl.JobJob{withLate(plainJob(impl.WinFixed, 5, 0), 4, false), withLate(plainJob(impl.WinSess, 5, 0), 4, false)} {
		after, _, _ := checkTake(t, j, operator(3, untold(1, 5, 10, many)), rec(5, 1, 4))
		if len(after.Rows) != 1 || after.Rows[0].All != agg(1001, 4, -9, 9) {
			t.Errorf("%+v: %+v", j, after)
		}
		after, panes, _ := checkTake(t, j, operator(10, told(1, 5, 10, 1500, one(4))), rec(5, 1, 4))
		if len(after.Rows) != 1 || after.Rows[0].Told != 1501 || !slices.Equal(panes, []impl.PanPane{late(1, 5, 10, 1500, agg(2, 8, 4, 4))}) {
			t.Errorf("%+v: %+v %v", j, after, panes)
		}
	}
}

func TestP39MarkLessLateOneMoreAndOneLess(t *testing.T) {
	r := fixed()
	for _, k := range windowJobs() {
		for _, late := range []int{0, 1, 4, 19, 20} {
			j := withLate(k, late, late%2 == 0)
			for mark := late; mark <= 60; mark += 1 + r.Intn(7) {
				for _, at := range []int{mark - late, mark - late + 1, mark, 60} {
					_, _, lates := checkTake(t, j, operator(mark), rec(min(at, 60), 2, 1))
					if len(lates) != 0 {
						t.Fatalf("%+v, Mark %d, time %d: %v", j, mark, at, lates)
					}
				}
				at := mark - late - 1
				if at < 0 {
					continue
				}
				_, _, lates := checkTake(t, j, operator(mark), rec(at, 2, 1))
				for _, w := range impl.WinOf(j, at) {
					if slices.Contains(lates, lat(rec(at, 2, 1), w.Start, w.End)) != (w.End == at+1) {
						t.Fatalf("%+v, Mark %d, time %d: %v", j, mark, at, lates)
					}
				}
			}
		}
	}
}

func TestP39OfAnyOperator(t *testing.T) {
	r := fixed()
	for range 10000 {
		j := anyJob(r)
		s := anyOperator(r, j, 6)
		for _, at := range []int{s.Mark - j.Late, s.Mark - j.Late + 1 + r.Intn(20)} {
			if at < 0 || at > 60 {
				continue
			}
			if _, _, lates := checkTake(t, j, s, rec(at, r.Intn(4), 1)); len(lates) != 0 {
				t.Fatalf("%+v, %+v, time %d: %v", j, s, at, lates)
			}
		}
	}
}

func TestP40MarksAroundARowsEnd(t *testing.T) {
	a := agg(2, 5, 1, 4)
	for _, k := range eachKind() {
		for _, j := range bothPieces(k) { // Late is 4
			for _, c := range []struct {
				to    int
				after impl.OpState
				told  bool
			}{
				{4, operator(4, untold(1, 5, 10, a)), false}, {9, operator(9, untold(1, 5, 10, a)), false}, {10, operator(10, told(1, 5, 10, 1, a)), true}, {11, operator(11, told(1, 5, 10, 1, a)), true},
				{13, operator(13, told(1, 5, 10, 1, a)), true}, {14, operator(14), true}, {15, operator(15), true}, {1000, operator(1000), true},
			} {
				after, panes := checkMark(t, j, operator(3, untold(1, 5, 10, a)), c.to)
				var want []impl.PanPane
				if c.told {
					want = []impl.PanPane{timely(1, 5, 10, a)}
				}
				if !sameOperator(after, c.after) || !slices.Equal(panes, want) {
					t.Errorf("%+v, mark %d: %+v %v", j, c.to, after, panes)
				}
			}
			for to := 11; to <= 16; to++ {
				after, panes := checkMark(t, j, operator(10, told(1, 5, 10, 3, a)), to)
				if len(panes) != 0 || after.Mark != to || (len(after.Rows) == 1) != (to < 14) || to < 14 && after.Rows[0] != told(1, 5, 10, 3, a) {
					t.Errorf("%+v, told, mark %d: %+v %v", j, to, after, panes)
				}
			}
		}
	}
}

func TestP40LateOfNoneAndOfMost(t *testing.T) {
	a := agg(2, 5, 1, 4)
	for _, k := range eachKind() {
		after, panes := checkMark(t, withLate(k, 0, false), operator(9, untold(1, 5, 10, a)), 10)
		if !sameOperator(after, operator(10)) || !slices.Equal(panes, []impl.PanPane{timely(1, 5, 10, a)}) {
			t.Errorf("%+v: %+v %v", k, after, panes)
		}
		after, panes = checkMark(t, withLate(k, 20, false), operator(9, untold(1, 60, 120, a)), 139)
		if !sameOperator(after, operator(139, told(1, 60, 120, 1, a))) || len(panes) != 1 {
			t.Errorf("%+v: %+v %v", k, after, panes)
		}
		after, panes = checkMark(t, withLate(k, 20, false), after, 140)
		if !sameOperator(after, operator(140)) || len(panes) != 0 {
			t.Errorf("%+v: %+v %v", k, after, panes)
		}
	}
}

func TestP40WhatIsFreshAndWhatIsAll(t *testing.T) {
	all, some := agg(3, 9, 1, 5), agg(2, 4, 1, 3)
	r := impl.OpRow{Key: 1, Win: win(5, 10), All: all, Fresh: some}
	for _, j := range eachKind() {
		for piece, want := range map[bool]impl.AggAgg{false: all, true: some} {
			after, panes := checkMark(t, withLate(j, 4, piece), operator(3, r), 10)
			if !slices.Equal(panes, []impl.PanPane{timely(1, 5, 10, want)}) || !sameOperator(after, operator(10, told(1, 5, 10, 1, all))) {
				t.Errorf("%+v, %v: %+v %v", j, piece, after, panes)
			}
		}
	}
}

func TestP40MarksThatTurnNothingAndMarksThatAreNone(t *testing.T) {
	rows := []impl.OpRow{told(0, 20, 27, 2, one(4)), untold(0, 27, 33, one(3)), untold(3, 26, 31, one(-9))}
	for _, j := range eachKind() {
		s := operator(30, rows...)
		s.Rows[1].Win.End = 36
		for _, to := range []int{0, 1, 29, 30} {
			if after, panes := checkMark(t, j, s, to); !sameOperator(after, s) || len(panes) != 0 {
				t.Errorf("%+v, mark %d: %+v %v", j, to, after, panes)
			}
		}
		for _, to := range []int{math.MinInt, math.MinInt + 1, -1000, -1, 1001, 1002, math.MaxInt - 1, math.MaxInt} {
			if after, panes := checkMark(t, j, s, to); !sameOperator(after, operator(0)) || len(panes) != 0 {
				t.Errorf("%+v, mark %d: %+v %v", j, to, after, panes)
			}
		}
		if after, panes := checkMark(t, j, s, 1000); !sameOperator(after, operator(1000)) || len(panes) != 2 {
			t.Errorf("%+v, mark 1000: %+v %v", j, after, panes)
		}
		for _, to := range []int{0, 999, 1000} {
			if after, panes := checkMark(t, j, operator(1000), to); !sameOperator(after, operator(1000)) || len(panes) != 0 {
				t.Errorf("%+v, mark %d behind the end: %+v %v", j, to, after, panes)
			}
		}
	}
}

func TestP40RowsInOrder(t *testing.T) {
	s := operator(12, told(0, 5, 10, 1, one(1)), untold(0, 10, 15, one(2)), untold(0, 15, 20, one(3)), untold(1, 8, 13, one(4)), untold(2, 0, 30, one(5)), untold(3, 9, 14, one(6)), untold(3, 14, 19, one(7)))
	for _, j := range eachKind() {
		after, panes := checkMark(t, j, s, 17)
		want := []impl.PanPane{timely(0, 10, 15, one(2)), timely(1, 8, 13, one(4)), timely(3, 9, 14, one(6))}
		left := operator(17, told(0, 10, 15, 1, one(2)), untold(0, 15, 20, one(3)), untold(2, 0, 30, one(5)), told(3, 9, 14, 1, one(6)), untold(3, 14, 19, one(7)))
		if !slices.Equal(panes, want) || !sameOperator(after, left) {
			t.Errorf("%+v: %+v %v", j, after, panes)
		}
	}
}

// checkEachOnce holds the panes of a mark against the promise's words.
func checkEachOnce(t *testing.T, j impl.JobJob, s impl.OpState, to int) {
	t.Helper()
	after, panes := checkMark(t, j, s, to)
	for _, r := range s.Rows {
		want := 0
		if !r.Timely && r.Win.End <= to {
			want = 1
		}
		if got := impl.PanOf(panes, r.Key, r.Win); len(got) != want {
			t.Fatalf("%+v, %+v, mark %d: %v of %+v", j, s, to, got, r)
		}
		is, open := impl.OpFind(after, r.Key, r.Win)
		if open == (max(to, s.Mark) >= r.Win.End+j.Late) || open && (is.All != r.All || is.Told != r.Told+want) {
			t.Fatalf("%+v, %+v, mark %d: %+v %v of %+v", j, s, to, is, open, r)
		}
	}
	if again, more := checkMark(t, j, after, to); !sameOperator(again, after) || len(more) != 0 {
		t.Fatalf("%+v, %+v, mark %d once more: %+v %v", j, after, to, again, more)
	}
}

func TestP40EachOnce(t *testing.T) {
	r := fixed()
	for range 10000 {
		j := anyJob(r)
		s := anyOperator(r, j, 8)
		checkEachOnce(t, j, s, min(s.Mark+r.Intn(40), 1000))
		checkEachOnce(t, j, s, r.Intn(141))
	}
}

func checkTwoMarks(t *testing.T, j impl.JobJob, s impl.OpState, to int) {
	t.Helper()
	between, first := checkMark(t, j, s, to)
	two, second := checkMark(t, j, between, to+1)
	one, panes := checkMark(t, j, s, to+1)
	if !sameOperator(one, two) {
		t.Fatalf("%+v, %+v, marks %d and one more: %+v, not %+v", j, s, to, two, one)
	}
	if a, b := impl.TabOf(append(first, second...), j.Piece), impl.TabOf(panes, j.Piece); !impl.TabSame(a, b) {
		t.Fatalf("%+v, %+v, marks %d and one more: %v, not %v", j, s, to, a, b)
	}
}

func TestP41TwoMarks(t *testing.T) {
	rows := []impl.OpRow{untold(0, 3, 10, one(1)), untold(0, 10, 11, one(2)), untold(0, 11, 15, one(3)), untold(1, 5, 9, one(4)), untold(1, 9, 12, one(5)), untold(2, 1, 10, one(6))}
	for _, k := range eachKind() {
		for _, late := range []int{0, 1, 2, 4, 20} {
			for _, j := range bothPieces(withLate(k, late, false)) {
				for to := 0; to <= 20; to++ {
					checkTwoMarks(t, j, operator(2, rows...), to)
				}
				checkTwoMarks(t, j, operator(2, rows...), 999)
			}
		}
	}
	r := fixed()
	for range 10000 {
		j := anyJob(r)
		s := anyOperator(r, j, 8)
		checkTwoMarks(t, j, s, min(max(s.Mark-3+r.Intn(30), 0), 999))
	}
}

// ofKey is the rows, panes and pairs of a key.
func ofKey(s impl.OpState, panes []impl.PanPane, lates []impl.LatPair, key int) ([]impl.OpRow, []impl.PanPane, []impl.LatPair) {
	rows := slices.DeleteFunc(slices.Clone(s.Rows), func(r impl.OpRow) bool { return r.Key != key })
	panes = slices.DeleteFunc(slices.Clone(panes), func(p impl.PanPane) bool { return p.Key != key })
	lates = slices.DeleteFunc(slices.Clone(lates), func(l impl.LatPair) bool { return l.Rec.Key != key })
	return rows, panes, lates
}

// takeBoth lets an operator take two records, one behind the other.
func takeBoth(t *testing.T, j impl.JobJob, s impl.OpState, x, y impl.ItmItem) (impl.OpState, []impl.PanPane, []impl.LatPair) {
	t.Helper()
	between, panes, lates := checkTake(t, j, s, x)
	after, more, others := checkTake(t, j, between, y)
	return after, append(panes, more...), append(lates, others...)
}

func checkTwoKeys(t *testing.T, j impl.JobJob, s impl.OpState, x, y impl.ItmItem) {
	t.Helper()
	a, aPanes, aLates := takeBoth(t, j, s, x, y)
	b, bPanes, bLates := takeBoth(t, j, s, y, x)
	if !sameOperator(a, b) {
		t.Fatalf("%+v, %+v, %v and %v: %+v and %+v", j, s, x, y, a, b)
	}
	for key := 0; key <= 3; key++ {
		rows, panes, lates := ofKey(a, aPanes, aLates, key)
		_, otherPanes, otherLates := ofKey(b, bPanes, bLates, key)
		if !slices.Equal(panes, otherPanes) || !slices.Equal(lates, otherLates) {
			t.Fatalf("%+v, %+v, %v and %v, key %d: %v %v and %v %v", j, s, x, y, key, panes, lates, otherPanes, otherLates)
		}
		were, _, _ := ofKey(s, nil, nil, key)
		if key != x.Key && key != y.Key && !slices.Equal(rows, were) {
			t.Fatalf("%+v, %+v, %v and %v turn key %d: %v", j, s, x, y, key, rows)
		}
	}
}

func TestP42TwoKeysInEitherOrder(t *testing.T) {
	rows := []impl.OpRow{told(0, 5, 10, 1, one(1)), untold(0, 13, 18, one(2)), told(1, 5, 10, 2, one(3)), told(2, 5, 10, 3, one(4)), untold(2, 10, 15, one(5)), untold(3, 13, 18, one(6))}
	for _, k := range append(eachKind(), plainJob(impl.WinFixed, 1, 0), plainJob(impl.WinSlide, 8, 2), plainJob(impl.WinSess, 1, 0), plainJob(impl.WinSess, 20, 0)) {
		for _, j := range bothPieces(k) {
			for _, s := range []impl.OpState{operator(0), operator(12), operator(12, rows...)} {
				for _, at := range []int{0, 4, 5, 7, 9, 10} {
					for _, other := range []int{at, at + 1, at + 4, at + 5, at + 6, 60} {
						checkTwoKeys(t, j, s, rec(at, 1, 7), rec(other, 2, -3))
						checkTwoKeys(t, j, s, rec(other, 0, 7), rec(at, 3, 7))
					}
				}
			}
		}
	}
	r := fixed()
	for range 6000 {
		j := anyJob(r)
		s := anyOperator(r, j, 8)
		x, y := nearRec(r, s.Mark), nearRec(r, s.Mark)
		y.Key = (x.Key + 1 + r.Intn(3)) % 4
		checkTwoKeys(t, j, s, x, y)
	}
}

func TestP42NoRowOfAnotherKey(t *testing.T) {
	r := fixed()
	for range 10000 {
		j := anyJob(r)
		s := anyOperator(r, j, 10)
		x := nearRec(r, s.Mark)
		after, panes, lates := checkTake(t, j, s, x)
		for key := 0; key <= 3; key++ {
			if key == x.Key {
				continue
			}
			were, _, _ := ofKey(s, nil, nil, key)
			if rows, told, late := ofKey(after, panes, lates, key); !slices.Equal(rows, were) || len(told)+len(late) != 0 {
				t.Fatalf("%+v, %+v takes %v, key %d: %v %v %v", j, s, x, key, rows, told, late)
			}
		}
	}
}

func byPair(a, b impl.LatPair) int {
	return cmp.Or(cmp.Compare(a.Rec.T, b.Rec.T), cmp.Compare(a.Rec.Key, b.Rec.Key), cmp.Compare(a.Rec.V, b.Rec.V), cmp.Compare(a.Win.Start, b.Win.Start), cmp.Compare(a.Win.End, b.Win.End))
}

func checkEitherOrder(t *testing.T, j impl.JobJob, s impl.OpState, x, y impl.ItmItem) {
	t.Helper()
	a, _, aLates := takeBoth(t, j, s, x, y)
	b, _, bLates := takeBoth(t, j, s, y, x)
	slices.SortFunc(aLates, byPair)
	slices.SortFunc(bLates, byPair)
	if !sameOperator(a, b) || !slices.Equal(aLates, bLates) {
		t.Fatalf("%+v, %+v, %v and %v: %+v %v and %+v %v", j, s, x, y, a, aLates, b, bLates)
	}
}

func TestP44OneKeyInEitherOrder(t *testing.T) {
	rows := []impl.OpRow{told(1, 4, 10, 2, one(3)), told(1, 5, 10, 2, one(3)), untold(1, 10, 15, one(5)), untold(2, 10, 15, one(6))}
	for _, k := range append(eachKind(), plainJob(impl.WinFixed, 1, 0), plainJob(impl.WinSlide, 8, 2)) {
		if k.Kind == impl.WinSess {
			continue
		}
		for _, j := range bothPieces(k) {
			for _, s := range []impl.OpState{operator(0), operator(12), operator(12, rows...)} {
				for _, at := range []int{0, 4, 5, 7, 9, 10} {
					for _, other := range []int{at, at + 1, at + 5, at + 6, 60} {
						checkEitherOrder(t, j, s, rec(at, 1, 7), rec(other, 1, -3))
					}
				}
			}
		}
	}
	r := fixed()
	for range 8000 {
		j := anyJob(r)
		if j.Kind == impl.WinSess {
			continue
		}
		s := anyOperator(r, j, 8)
		x, y := nearRec(r, s.Mark), nearRec(r, s.Mark)
		if r.Intn(3) > 0 {
			y.Key = x.Key
		}
		checkEitherOrder(t, j, s, x, y)
	}
}

func TestP45TheEnd(t *testing.T) {
	s := operator(12, told(0, 5, 10, 2, one(1)), untold(0, 10, 15, one(2)), untold(1, 60, 120, one(3)), told(3, 4, 11, 1, one(4)), untold(3, 12, 13, one(5)))
	want := []impl.PanPane{timely(0, 10, 15, one(2)), timely(1, 60, 120, one(3)), timely(3, 12, 13, one(5))}
	for _, k := range eachKind() {
		for _, late := range []int{3, 4, 20} {
			for _, j := range bothPieces(withLate(k, late, false)) {
				end, panes := checkMark(t, j, s, 1000)
				if !sameOperator(end, operator(1000)) || !slices.Equal(panes, want) {
					t.Fatalf("%+v: %+v %v", j, end, panes)
				}
				for at := 0; at <= 60; at++ {
					x := rec(at, at%4, 7)
					after, told, lates := checkTake(t, j, end, x)
					if !sameOperator(after, end) || len(told) != 0 || !slices.Equal(lates, impl.SpcPairs(j, []impl.ItmItem{x})) {
						t.Fatalf("%+v, %v: %+v %v %v", j, x, after, told, lates)
					}
				}
			}
		}
	}
	r := fixed()
	for range 3000 {
		j := anyJob(r)
		end, _ := checkMark(t, j, anyOperator(r, j, 8), 1000)
		if after, told, lates := checkTake(t, j, end, nearRec(r, 60)); len(end.Rows) != 0 || !sameOperator(after, end) || len(told) != 0 || len(lates) == 0 {
			t.Fatalf("%+v: %+v %+v %v %v", j, end, after, told, lates)
		}
	}
}

func TestFindingARow(t *testing.T) {
	a, b := untold(1, 5, 10, one(1)), told(1, 5, 10, 7, one(2))
	any := impl.OpRow{Key: math.MinInt, Win: win(math.MaxInt, math.MinInt), Told: -5}
	for _, c := range []struct {
		name string
		rows []impl.OpRow
		key  int
		win  impl.WinWin
		want impl.OpRow
		ok   bool
	}{
		{"of none", nil, 1, win(5, 10), impl.OpRow{}, false},
		{"of none, nothing", nil, 0, win(0, 0), impl.OpRow{}, false},
		{"the only one", []impl.OpRow{a}, 1, win(5, 10), a, true},
		{"another key", []impl.OpRow{a}, 2, win(5, 10), impl.OpRow{}, false},
		{"another Start", []impl.OpRow{a}, 1, win(4, 10), impl.OpRow{}, false},
		{"another End", []impl.OpRow{a}, 1, win(5, 11), impl.OpRow{}, false},
		{"the first of two", []impl.OpRow{a, b}, 1, win(5, 10), a, true},
		{"the first of two, the other way round", []impl.OpRow{b, a}, 1, win(5, 10), b, true},
		{"behind others, in no order", []impl.OpRow{untold(3, 5, 10, one(3)), untold(1, 6, 10, one(4)), b, untold(0, 5, 10, one(5)), a}, 1, win(5, 10), b, true},
		{"behind one of nothing", []impl.OpRow{{}, a}, 1, win(5, 10), a, true},
		{"nothing", []impl.OpRow{a, {}, any}, 0, win(0, 0), impl.OpRow{}, true},
		{"of any numbers", []impl.OpRow{a, any}, math.MinInt, win(math.MaxInt, math.MinInt), any, true},
		{"none of any numbers", []impl.OpRow{a, any}, math.MinInt, win(math.MinInt, math.MaxInt), impl.OpRow{}, false},
	} {
		for _, mark := range []int{math.MinInt, -1, 0, 7, 1000, math.MaxInt} {
			if got, ok := impl.OpFind(operator(mark, c.rows...), c.key, c.win); got != c.want || ok != c.ok {
				t.Errorf("%s: %+v %v", c.name, got, ok)
			}
		}
	}
	r := fixed()
	for range 5000 {
		s := brokenOperator(r, anyOperator(r, anyJob(r), 6))
		x := pick(r, s.Rows)
		i := slices.IndexFunc(s.Rows, func(o impl.OpRow) bool { return byPlace(o, x) == 0 })
		if got, ok := impl.OpFind(s, x.Key, x.Win); !ok || got != s.Rows[i] {
			t.Fatalf("%+v: %+v %v, not %+v", s, got, ok, s.Rows[i])
		}
		if got, ok := impl.OpFind(s, 77, x.Win); ok || got != (impl.OpRow{}) {
			t.Fatalf("%+v: %+v %v", s, got, ok)
		}
	}
}

func TestOperatorsLeaveTheirArguments(t *testing.T) {
	r := fixed()
	other := told(77, 77, 77, 77, one(7))
	for range 4000 {
		j := anyJob(r)
		was := anyOperator(r, j, 8)
		rows := guard(was.Rows, other)
		s := impl.OpState{Mark: was.Mark, Rows: rows.given}
		x := nearRec(r, s.Mark)
		for _, to := range []int{s.Mark, min(s.Mark+r.Intn(30), 1000), 0} {
			after, panes := impl.OpMark(j, s, to)
			fill(after.Rows, other)
			fill(panes, impl.PanPane{Key: 77})
		}
		after, panes, lates := impl.OpTake(j, s, x)
		had := impl.OpState{Mark: after.Mark, Rows: slices.Clone(after.Rows)}
		again, more, others := impl.OpTake(j, s, x)
		fill(again.Rows, other)
		fill(more, impl.PanPane{Key: 77})
		fill(others, impl.LatPair{Rec: rec(77, 77, 77)})
		impl.OpOk(j, s)
		impl.OpFind(s, x.Key, win(x.T, x.T+j.Size))
		rows.check(t, "a function of an operator")
		_, wantPanes, wantLates := taken(j, was, x)
		fill(rows.given, other)
		if !sameOperator(after, had) || !slices.Equal(panes, wantPanes) || !slices.Equal(lates, wantLates) {
			t.Fatalf("%+v, %+v: an answer has turned: %+v %v %v", j, was, after, panes, lates)
		}
	}
}

func TestOperatorsAnswerTheSameEachTime(t *testing.T) {
	r := fixed()
	for range 60 {
		j := anyJob(r)
		s := anyOperator(r, j, 40)
		x := nearRec(r, s.Mark)
		for range 20 {
			checkTake(t, j, s, x)
			checkMark(t, j, s, min(s.Mark+10, 1000))
		}
	}
}

func TestOperatorsAnswerAtEveryArgument(t *testing.T) {
	r := fixed()
	for range 15000 {
		j, x := anyNumbersJob(r), anyItem(r)
		s := anyOperator(r, anyJob(r), 4)
		if r.Intn(2) == 0 {
			s = brokenOperator(r, s)
		}
		to := pick(r, edges)
		quiet(t, []any{j, s, x, to}, func() {
			checkTake(t, j, s, x)
			checkMark(t, j, s, to)
			impl.OpFind(s, pick(r, edges), win(pick(r, edges), pick(r, edges)))
			if impl.OpOk(j, s) != isOperator(j, s) {
				t.Fatalf("%+v %+v", j, s)
			}
		})
	}
	for _, n := range edges {
		quiet(t, n, func() {
			r := impl.OpRow{Key: n, Win: win(n, n), All: agg(n, n, n, n), Fresh: agg(n, n, n, n), Told: n, Timely: n > 0}
			for _, s := range []impl.OpState{operator(n), operator(n, r), operator(0, r), operator(n, r, r)} {
				for _, j := range append(eachKind(), impl.JobJob{}, impl.JobJob{Sources: n, Tasks: n, Kind: n, Size: n, Step: n, Late: n, Tell: n, Least: n, Room: n}) {
					checkTake(t, j, s, impl.ItmItem{Kind: impl.ItmRec, T: n, Key: n, V: n, N: n})
					checkMark(t, j, s, n)
				}
			}
		})
	}
}
