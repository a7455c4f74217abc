package tests

import (
	"math"
	"math/rand"
	"slices"
	"testing"

	"loop.example/freshet/impl"
)

func TestNumbersOfAll(t *testing.T) {
	if impl.SpcMax != 120 {
		t.Fatal(impl.SpcMax)
	}
}

func lat(x impl.ItmItem, start, end int) impl.LatPair {
	return impl.LatPair{Rec: x, Win: win(start, end)}
}

// someRecs is so many records that are ok, of times up to one and of so many keys.
func someRecs(r *rand.Rand, n, lastTime, keys int) []impl.ItmItem {
	recs := make([]impl.ItmItem, n)
	for i := range recs {
		recs[i] = rec(r.Intn(lastTime+1), r.Intn(keys), r.Intn(19)-9)
	}
	return recs
}

// recsAt is records of a key at times, with values of their own.
func recsAt(key int, times ...int) []impl.ItmItem {
	var recs []impl.ItmItem
	for i, at := range times {
		recs = append(recs, rec(at, key, i%10))
	}
	return recs
}

// eachKind is a job of each Kind, sliding ones of several windows a time.
func eachKind() []impl.JobJob {
	return []impl.JobJob{plainJob(impl.WinFixed, 5, 0), plainJob(impl.WinSlide, 6, 2), plainJob(impl.WinSlide, 4, 1), plainJob(impl.WinSess, 5, 0)}
}

// noRecords is items that are no records that are ok.
func noRecords() []impl.ItmItem {
	return []impl.ItmItem{
		{}, mark(5), mark(1000), wall(5), rec(-1, 0, 0), rec(61, 0, 0), rec(5, -1, 0), rec(5, 4, 0), rec(5, 0, -10), rec(5, 0, 10), {Kind: impl.ItmRec, T: 5, N: 1}, {T: 5}, {Kind: 4, T: 5},
		rec(math.MinInt, 0, 0), rec(math.MaxInt, 0, 0), rec(5, math.MinInt, 0), rec(5, 0, math.MaxInt), {Kind: math.MaxInt, T: 5}, {Kind: math.MinInt, T: 5}, {Kind: impl.ItmRec, T: 5, N: math.MinInt},
	}
}

// pairsOf says the same as SpcPairs of records that are ok, from the document's words.
func pairsOf(j impl.JobJob, recs []impl.ItmItem) []impl.LatPair {
	var pairs []impl.LatPair
	for _, x := range recs {
		for _, w := range windowsOf(j, x.T) {
			pairs = append(pairs, impl.LatPair{Rec: x, Win: w})
		}
	}
	return pairs
}

// allOf says the same as SpcTable of records that are ok, from the promises' words: window by window, or, of sessions, by the gaps between times.
func allOf(j impl.JobJob, recs []impl.ItmItem) []impl.TabRow {
	var rows []impl.TabRow
	for key := 0; key <= 3; key++ {
		wins := windowsThatAre(j)
		if j.Kind == impl.WinSess {
			wins = sessionsThatAre(j.Size, key, recs)
		}
		for _, w := range wins {
			var values []int
			for _, x := range recs {
				if x.Key == key && has(w, x.T) {
					values = append(values, x.V)
				}
			}
			if len(values) > 0 {
				rows = append(rows, impl.TabRow{Key: key, Win: w, Agg: knownOf(values)})
			}
		}
	}
	return rows
}

// windowsThatAre is all windows of a job without sessions, in order.
func windowsThatAre(j impl.JobJob) []impl.WinWin {
	step := j.Size
	if j.Kind == impl.WinSlide {
		step = j.Step
	}
	var wins []impl.WinWin
	for start := 0; start <= 60; start += step {
		wins = append(wins, win(start, start+j.Size))
	}
	return wins
}

// sessionsThatAre is the windows of all sessions of a key, in order.
func sessionsThatAre(size, key int, recs []impl.ItmItem) []impl.WinWin {
	var times []int
	for _, x := range recs {
		if x.Key == key {
			times = append(times, x.T)
		}
	}
	slices.Sort(times)
	var wins []impl.WinWin
	for i, at := range times {
		if i == 0 || at-times[i-1] >= size {
			wins = append(wins, win(at, at))
		}
		wins[len(wins)-1].End = at + size
	}
	return wins
}

func TestP46EachKind(t *testing.T) {
	a, b, c := rec(7, 1, 4), rec(0, 2, -3), rec(60, 0, 9)
	for _, x := range []struct {
		kind, size, step int
		recs             []impl.ItmItem
		want             []impl.LatPair
	}{
		{impl.WinFixed, 5, 0, nil, nil}, {impl.WinSlide, 6, 2, nil, nil}, {impl.WinSess, 5, 0, nil, nil},
		{impl.WinFixed, 5, 0, []impl.ItmItem{a}, []impl.LatPair{lat(a, 5, 10)}},
		{impl.WinSess, 5, 0, []impl.ItmItem{a}, []impl.LatPair{lat(a, 7, 12)}},
		{impl.WinSlide, 6, 2, []impl.ItmItem{a}, []impl.LatPair{lat(a, 2, 8), lat(a, 4, 10), lat(a, 6, 12)}},
		{impl.WinSlide, 4, 1, []impl.ItmItem{a}, []impl.LatPair{lat(a, 4, 8), lat(a, 5, 9), lat(a, 6, 10), lat(a, 7, 11)}},
		{impl.WinSlide, 4, 1, []impl.ItmItem{rec(0, 1, 4)}, []impl.LatPair{lat(rec(0, 1, 4), 0, 4)}},
		{impl.WinSlide, 4, 1, []impl.ItmItem{rec(2, 1, 4)}, []impl.LatPair{lat(rec(2, 1, 4), 0, 4), lat(rec(2, 1, 4), 1, 5), lat(rec(2, 1, 4), 2, 6)}},
		{impl.WinSlide, 5, 2, []impl.ItmItem{rec(5, 1, 4)}, []impl.LatPair{lat(rec(5, 1, 4), 2, 7), lat(rec(5, 1, 4), 4, 9)}},
		{impl.WinFixed, 5, 0, []impl.ItmItem{a, b, c, a}, []impl.LatPair{lat(a, 5, 10), lat(b, 0, 5), lat(c, 60, 65), lat(a, 5, 10)}},
		{impl.WinSess, 20, 0, []impl.ItmItem{c, a, a, b}, []impl.LatPair{lat(c, 60, 80), lat(a, 7, 27), lat(a, 7, 27), lat(b, 0, 20)}},
		{impl.WinSlide, 6, 2, []impl.ItmItem{c, b, a}, []impl.LatPair{lat(c, 56, 62), lat(c, 58, 64), lat(c, 60, 66), lat(b, 0, 6), lat(a, 2, 8), lat(a, 4, 10), lat(a, 6, 12)}},
	} {
		j := plainJob(x.kind, x.size, x.step)
		if got := impl.SpcPairs(j, x.recs); !slices.Equal(got, x.want) {
			t.Errorf("%v of %v: %v, not %v", j, x.recs, got, x.want)
		}
	}
}

func TestP46RecordByRecord(t *testing.T) {
	r := fixed()
	for n, j := range windowJobs() {
		recs := someRecs(r, n%40, 60, 4)
		got := impl.SpcPairs(j, recs)
		if !slices.Equal(got, pairsOf(j, recs)) {
			t.Fatalf("%v of %v: %v", j, recs, got)
		}
		var want []impl.LatPair
		for _, x := range recs {
			for _, w := range impl.WinOf(j, x.T) {
				want = append(want, impl.LatPair{Rec: x, Win: w})
			}
		}
		if !slices.Equal(got, want) {
			t.Fatalf("%v of %v: %v, not %v", j, recs, got, want)
		}
		for _, l := range got {
			if !impl.LatOk(l) {
				t.Fatalf("%v of %v: %v is not ok", j, recs, l)
			}
		}
	}
	for range 1000 {
		j, recs := anyJob(r), someRecs(r, r.Intn(6), 60, 4)
		if got := impl.SpcPairs(j, recs); !slices.Equal(got, pairsOf(j, recs)) {
			t.Fatalf("%v of %v: %v", j, recs, got)
		}
	}
}

func TestP46AsManyAsMayBe(t *testing.T) {
	r := fixed()
	for _, j := range eachKind() {
		for _, n := range []int{0, 1, 119, 120, 121, 122, 500} {
			recs := someRecs(r, n, 60, 4)
			var pairs []impl.LatPair
			var rows []impl.TabRow
			if n <= 120 {
				pairs, rows = pairsOf(j, recs), allOf(j, recs)
			}
			if got := impl.SpcPairs(j, recs); !slices.Equal(got, pairs) {
				t.Fatalf("%v of %d: %v", j, n, got)
			}
			if got := impl.SpcTable(j, recs); !slices.Equal(got, rows) {
				t.Fatalf("%v of %d: %v", j, n, got)
			}
		}
	}
}

func TestP46OneThatIsNoRecordThatIsOk(t *testing.T) {
	good := []impl.ItmItem{rec(0, 0, 1), rec(7, 1, 2), rec(60, 3, -9)}
	for _, j := range eachKind() {
		if len(impl.SpcPairs(j, good)) == 0 || len(impl.SpcTable(j, good)) == 0 {
			t.Fatalf("%v has none", j)
		}
		for _, x := range noRecords() {
			for i := 0; i <= len(good); i++ {
				recs := slices.Insert(slices.Clone(good), i, x)
				if pairs, rows := impl.SpcPairs(j, recs), impl.SpcTable(j, recs); len(pairs) != 0 || len(rows) != 0 {
					t.Fatalf("%v of %v: %v %v", j, recs, pairs, rows)
				}
			}
			if pairs, rows := impl.SpcPairs(j, []impl.ItmItem{x}), impl.SpcTable(j, []impl.ItmItem{x}); len(pairs) != 0 || len(rows) != 0 {
				t.Fatalf("%v of %v: %v %v", j, x, pairs, rows)
			}
		}
	}
}

func TestP46AJobThatIsNotOk(t *testing.T) {
	for _, j := range brokenJobs() {
		for _, recs := range [][]impl.ItmItem{nil, {rec(0, 0, 1)}, {rec(0, 0, 1), rec(7, 1, 2), rec(60, 3, -9)}} {
			if pairs, rows := impl.SpcPairs(j, recs), impl.SpcTable(j, recs); len(pairs) != 0 || len(rows) != 0 {
				t.Fatalf("%v of %v: %v %v", j, recs, pairs, rows)
			}
		}
	}
}

func TestP47EveryOrder(t *testing.T) {
	r := fixed()
	some := [][]impl.ItmItem{
		nil, {rec(7, 1, 4)}, {rec(1, 0, 4), rec(9, 0, 2), rec(5, 0, 3)}, {rec(0, 0, 1), rec(4, 0, 2), rec(8, 0, 3), rec(12, 0, 4), rec(16, 0, 5)},
		{rec(0, 0, 1), rec(5, 0, 2), rec(10, 0, 3), rec(7, 0, 9), rec(3, 0, -9)}, {rec(3, 0, 1), rec(3, 1, 2), rec(3, 0, 3), rec(3, 1, 3), rec(7, 0, 3)},
		{rec(3, 2, 1), rec(3, 2, 1), rec(3, 2, -1), rec(60, 2, 9)},
	}
	for range 12 {
		some = append(some, someRecs(r, 5, 14, 2))
	}
	for _, j := range append(eachKind(), plainJob(impl.WinSess, 1, 0), plainJob(impl.WinSess, 3, 0), plainJob(impl.WinSess, 20, 0), plainJob(impl.WinFixed, 1, 0), plainJob(impl.WinSlide, 5, 2)) {
		for _, recs := range some {
			want := allOf(j, recs)
			for _, o := range orders(recs) {
				if got := impl.SpcTable(j, o); !slices.Equal(got, want) {
					t.Fatalf("%v of %v: %v, not %v", j, o, got, want)
				}
			}
		}
	}
}

func TestP47ManyInAnyOrder(t *testing.T) {
	r := fixed()
	for range 300 {
		j := anyJob(r)
		recs := someRecs(r, r.Intn(121), 60, 1+r.Intn(4))
		want := impl.SpcTable(j, recs)
		for range 4 {
			r.Shuffle(len(recs), func(i, k int) { recs[i], recs[k] = recs[k], recs[i] })
			if got := impl.SpcTable(j, recs); !slices.Equal(got, want) {
				t.Fatalf("%v of %v: %v, not %v", j, recs, got, want)
			}
		}
		slices.Reverse(recs)
		if got := impl.SpcTable(j, recs); !slices.Equal(got, want) {
			t.Fatalf("%v of %v: %v, not %v", j, recs, got, want)
		}
	}
}

func TestP48RowsOfEachKind(t *testing.T) {
	recs := []impl.ItmItem{rec(7, 1, 4), rec(2, 0, -3), rec(60, 0, 9), rec(5, 1, 2), rec(4, 1, 1), rec(2, 0, 5)}
	for _, c := range []struct {
		kind, size, step int
		want             []impl.TabRow
	}{
		{impl.WinFixed, 5, 0, []impl.TabRow{row(0, 0, 5, agg(2, 2, -3, 5)), row(0, 60, 65, one(9)), row(1, 0, 5, one(1)), row(1, 5, 10, agg(2, 6, 2, 4))}},
		{impl.WinSess, 2, 0, []impl.TabRow{row(0, 2, 4, agg(2, 2, -3, 5)), row(0, 60, 62, one(9)), row(1, 4, 7, agg(2, 3, 1, 2)), row(1, 7, 9, one(4))}},
		{impl.WinSess, 3, 0, []impl.TabRow{row(0, 2, 5, agg(2, 2, -3, 5)), row(0, 60, 63, one(9)), row(1, 4, 10, agg(3, 7, 1, 4))}},
		{impl.WinSlide, 6, 3, []impl.TabRow{row(0, 0, 6, agg(2, 2, -3, 5)), row(0, 57, 63, one(9)), row(0, 60, 66, one(9)), row(1, 0, 6, agg(2, 3, 1, 2)), row(1, 3, 9, agg(3, 7, 1, 4)), row(1, 6, 12, one(4))}},
	} {
		j := plainJob(c.kind, c.size, c.step)
		if got := impl.SpcTable(j, recs); !slices.Equal(got, c.want) {
			t.Errorf("%v: %v, not %v", j, got, c.want)
		}
		if got := impl.SpcTable(j, nil); len(got) != 0 {
			t.Errorf("%v of none: %v", j, got)
		}
	}
}

// checkTable holds a table against the promise's words.
func checkTable(t *testing.T, j impl.JobJob, recs []impl.ItmItem) {
	t.Helper()
	rows, pairs := impl.SpcTable(j, recs), impl.SpcPairs(j, recs)
	if !slices.Equal(rows, allOf(j, recs)) {
		t.Fatalf("%v of %v: %v, not %v", j, recs, rows, allOf(j, recs))
	}
	if impl.TabCount(rows) != len(pairs) {
		t.Fatalf("%v of %v: %v knows of %d, not %d", j, recs, rows, impl.TabCount(rows), len(pairs))
	}
	for i, x := range rows {
		if i > 0 && !isBehind(x, rows[i-1]) {
			t.Fatalf("%v of %v: %v is in no order", j, recs, rows)
		}
		if j.Kind == impl.WinSess && i > 0 && x.Key == rows[i-1].Key && impl.WinTouch(x.Win, rows[i-1].Win) {
			t.Fatalf("%v of %v: %v has sessions that touch", j, recs, rows)
		}
		var values []int
		for _, y := range recs {
			if y.Key == x.Key && has(x.Win, y.T) {
				values = append(values, y.V)
			}
		}
		if x.Agg != knownOf(values) || x.Agg.N == 0 {
			t.Fatalf("%v of %v: %v knows not of just %v", j, recs, x, values)
		}
	}
}

func TestP48EachRowKnowsItsRecords(t *testing.T) {
	r := fixed()
	for _, j := range windowJobs() {
		for _, n := range []int{1, 2, 3, 5, 12, 40, 120} {
			checkTable(t, j, someRecs(r, n, 60, 4))
			checkTable(t, j, someRecs(r, n, 3*j.Size%61, 2))
		}
	}
}

func TestP49WhichSessionsBecomeOne(t *testing.T) {
	for _, c := range []struct {
		name  string
		times []int
		want  []impl.WinWin
	}{
		{"none", nil, nil},
		{"one", []int{7}, wins(7, 12)},
		{"touch just so", []int{7, 11}, wins(7, 16)},
		{"touch just not", []int{7, 12}, wins(7, 12, 12, 17)},
		{"touch just so, the later first", []int{11, 7}, wins(7, 16)},
		{"touch just not, the later first", []int{12, 7}, wins(7, 12, 12, 17)},
		{"one makes two one", []int{1, 9, 5}, wins(1, 14)},
		{"one makes two one just so", []int{0, 8, 4}, wins(0, 13)},
		{"one touches the first just not", []int{0, 9, 5}, wins(0, 5, 5, 14)},
		{"one touches the second just not", []int{0, 9, 4}, wins(0, 9, 9, 14)},
		{"one makes three one", []int{0, 5, 10, 4, 9}, wins(0, 15)},
		{"one between a first, a second and a third that was one", []int{0, 4, 8, 20, 13, 17}, wins(0, 13, 13, 25)},
		{"a long one and one in it", []int{0, 4, 8, 12, 16, 6}, wins(0, 21)},
		{"with one time", []int{7, 7, 7}, wins(7, 12)},
		{"with one time, twice", []int{7, 12, 7, 12}, wins(7, 12, 12, 17)},
		{"the first and the last time", []int{60, 0}, wins(0, 5, 60, 65)},
		{"up to the last time", []int{60, 56}, wins(56, 65)},
		{"all times", []int{0, 4, 8, 12, 16, 20, 24, 28, 32, 36, 40, 44, 48, 52, 56, 60}, wins(0, 65)},
	} {
		for _, others := range [][]impl.ItmItem{nil, recsAt(0, 5, 9, 14), recsAt(3, 4, 8, 12)} {
			var recs []impl.ItmItem
			for i, x := range recsAt(1, c.times...) {
				recs = append(recs, x)
				if i < len(others) {
					recs = append(recs, others[i])
				}
			}
			var got []impl.WinWin
			for _, x := range impl.SpcTable(plainJob(impl.WinSess, 5, 0), recs) {
				if x.Key == 1 {
					got = append(got, x.Win)
				}
			}
			if !slices.Equal(got, c.want) {
				t.Errorf("%s, %v: %v, not %v", c.name, recs, got, c.want)
			}
		}
	}
}

// No window touches three sessions: the one between would have to be shorter than it, and all are at least as long. So a record makes two one at most, and a second one all three.
func TestP49TwoRecordsMakeThreeOne(t *testing.T) {
	for size := 2; size <= 20; size++ {
		j := plainJob(impl.WinSess, size, 0)
		for start := 0; start+2*size <= 60; start += 5 {
			recs := recsAt(2, start, start+size, start+2*size)
			for _, x := range []struct {
				at   []int
				want int
			}{
				{nil, 3}, {[]int{start + size - 1}, 2}, {[]int{start + 2*size - 1}, 2}, {[]int{start + size - 1, start + 2*size - 1}, 1}, {[]int{start + 2*size - 1, start + size - 1}, 1}, {[]int{start + size}, 3},
			} {
				all := append(slices.Clone(recs), recsAt(2, x.at...)...)
				if got := impl.SpcTable(j, all); len(got) != x.want || got[len(got)-1].Win.End != start+3*size || got[0].Win.Start != start {
					t.Fatalf("%v of %v: %v, not %d", j, all, got, x.want)
				}
			}
			for at := start; at <= start+2*size; at++ {
				checkTable(t, j, append(slices.Clone(recs), rec(at, 2, 9)))
			}
		}
	}
}

func TestP49FromTheEarliestToBehindTheLatest(t *testing.T) {
	r := fixed()
	for range 3000 {
		j := plainJob(impl.WinSess, 1+r.Intn(20), 0)
		recs := someRecs(r, r.Intn(40), 60, 1+r.Intn(4))
		count := 0
		for _, x := range impl.SpcTable(j, recs) {
			var times []int
			for _, y := range recs {
				if y.Key == x.Key && has(x.Win, y.T) {
					times = append(times, y.T)
				}
			}
			slices.Sort(times)
			count += len(times)
			if len(times) == 0 || x.Win.Start != times[0] || x.Win.End != times[len(times)-1]+j.Size {
				t.Fatalf("%v of %v: %v has %v", j, recs, x, times)
			}
			for i := 1; i < len(times); i++ {
				if times[i]-times[i-1] >= j.Size {
					t.Fatalf("%v of %v: %v has %v", j, recs, x, times)
				}
			}
		}
		if count != len(recs) {
			t.Fatalf("%v of %v: %d are in sessions", j, recs, count)
		}
	}
}

// checkOneMore holds a table with a record more against the one without it.
func checkOneMore(t *testing.T, j impl.JobJob, recs []impl.ItmItem, x impl.ItmItem) {
	t.Helper()
	was, is := impl.SpcTable(j, recs), impl.SpcTable(j, append(slices.Clone(recs), x))
	if got, want := impl.TabCount(is)-impl.TabCount(was), len(impl.WinOf(j, x.T)); got != want {
		t.Fatalf("%v of %v and %v: %d more, not %d", j, recs, x, got, want)
	}
	ofKey := func(r impl.TabRow) bool { return r.Key == x.Key }
	if a, b := slices.DeleteFunc(slices.Clone(was), ofKey), slices.DeleteFunc(slices.Clone(is), ofKey); !slices.Equal(a, b) {
		t.Fatalf("%v of %v and %v: other keys have %v, had %v", j, recs, x, b, a)
	}
	for _, w := range impl.WinOf(j, x.T) {
		known, _ := found(was, x.Key, w)
		if got, has := found(is, x.Key, w); j.Kind != impl.WinSess && (!has || got != impl.AggAdd(known, x.V)) {
			t.Fatalf("%v of %v and %v: %v %v in %v, not one more than %v", j, recs, x, got, has, w, known)
		}
	}
}

func TestP50OneRecordMore(t *testing.T) {
	recs := []impl.ItmItem{rec(7, 1, 4), rec(16, 1, -3), rec(7, 0, 2), rec(60, 3, 9)}
	for _, j := range append(windowJobs(), eachKind()...) {
		for key := 0; key <= 3; key++ {
			for at := 0; at <= 60; at++ {
				checkOneMore(t, j, recs, rec(at, key, 5))
			}
		}
	}
	r := fixed()
	for range 2000 {
		j := anyJob(r)
		recs := someRecs(r, r.Intn(120), 60, 1+r.Intn(4))
		checkOneMore(t, j, recs, someRecs(r, 1, 60, 4)[0])
	}
}

func TestP50WhereItGoes(t *testing.T) {
	sess, fix := plainJob(impl.WinSess, 5, 0), plainJob(impl.WinFixed, 5, 0)
	recs := []impl.ItmItem{rec(1, 1, 4), rec(9, 1, 2), rec(9, 2, 8)}
	for _, c := range []struct {
		name string
		j    impl.JobJob
		x    impl.ItmItem
		want []impl.TabRow
	}{
		{"a new window", fix, rec(20, 1, 7), []impl.TabRow{row(1, 0, 5, one(4)), row(1, 5, 10, one(2)), row(1, 20, 25, one(7)), row(2, 5, 10, one(8))}},
		{"one that is there", fix, rec(4, 1, 7), []impl.TabRow{row(1, 0, 5, agg(2, 11, 4, 7)), row(1, 5, 10, one(2)), row(2, 5, 10, one(8))}},
		{"another key", fix, rec(4, 2, 7), []impl.TabRow{row(1, 0, 5, one(4)), row(1, 5, 10, one(2)), row(2, 0, 5, one(7)), row(2, 5, 10, one(8))}},
		{"a new session", sess, rec(20, 1, 7), []impl.TabRow{row(1, 1, 6, one(4)), row(1, 9, 14, one(2)), row(1, 20, 25, one(7)), row(2, 9, 14, one(8))}},
		{"a session that is there", sess, rec(1, 1, 7), []impl.TabRow{row(1, 1, 6, agg(2, 11, 4, 7)), row(1, 9, 14, one(2)), row(2, 9, 14, one(8))}},
		{"a session that grows", sess, rec(3, 1, 7), []impl.TabRow{row(1, 1, 8, agg(2, 11, 4, 7)), row(1, 9, 14, one(2)), row(2, 9, 14, one(8))}},
		{"between two sessions", sess, rec(5, 1, 7), []impl.TabRow{row(1, 1, 14, agg(3, 13, 2, 7)), row(2, 9, 14, one(8))}},
		{"a session of another key", sess, rec(5, 2, 7), []impl.TabRow{row(1, 1, 6, one(4)), row(1, 9, 14, one(2)), row(2, 5, 14, agg(2, 15, 7, 8))}},
		{"a key that was not there", sess, rec(5, 0, 7), []impl.TabRow{row(0, 5, 10, one(7)), row(1, 1, 6, one(4)), row(1, 9, 14, one(2)), row(2, 9, 14, one(8))}},
	} {
		if got := impl.SpcTable(c.j, append(slices.Clone(recs), c.x)); !slices.Equal(got, c.want) {
			t.Errorf("%s: %v, not %v", c.name, got, c.want)
		}
	}
}

// left says the same as SpcWithout, from the document's words, one by one.
func left(recs, others []impl.ItmItem) []impl.ItmItem {
	rest := slices.Clone(recs)
	for _, x := range others {
		if i := slices.Index(rest, x); i >= 0 {
			rest = slices.Delete(rest, i, i+1)
		}
	}
	return rest
}

// countOf is how often an item is in a list.
func countOf(items []impl.ItmItem, x impl.ItmItem) int {
	n := 0
	for _, y := range items {
		if x == y {
			n++
		}
	}
	return n
}

func checkWithout(t *testing.T, recs, others []impl.ItmItem) {
	t.Helper()
	got := impl.SpcWithout(recs, others)
	if !slices.Equal(got, left(recs, others)) {
		t.Fatalf("%v without %v: %v, not %v", recs, others, got, left(recs, others))
	}
	for _, x := range recs {
		took := countOf(recs, x) - countOf(got, x)
		if took != min(countOf(recs, x), countOf(others, x)) {
			t.Fatalf("%v without %v: %v, took %v %d times", recs, others, got, x, took)
		}
	}
}

func TestP51WhatIsTakenAway(t *testing.T) {
	a, b, c := rec(1, 0, 1), rec(9, 0, 2), rec(5, 0, 3)
	for _, x := range []struct {
		name               string
		recs, others, want []impl.ItmItem
	}{
		{"none of none", nil, nil, nil},
		{"some of none", nil, []impl.ItmItem{a, b}, nil},
		{"nothing", []impl.ItmItem{a, b, c}, nil, []impl.ItmItem{a, b, c}},
		{"all", []impl.ItmItem{a, b, c}, []impl.ItmItem{a, b, c}, nil},
		{"all, in another order", []impl.ItmItem{a, b, c}, []impl.ItmItem{c, a, b}, nil},
		{"one", []impl.ItmItem{a, b, c}, []impl.ItmItem{b}, []impl.ItmItem{a, c}},
		{"one that is there twice: the first", []impl.ItmItem{a, b, a, c}, []impl.ItmItem{a}, []impl.ItmItem{b, a, c}},
		{"one twice", []impl.ItmItem{a, b, a, c, a}, []impl.ItmItem{a, a}, []impl.ItmItem{b, c, a}},
		{"one more than there are", []impl.ItmItem{a, b, a, c}, []impl.ItmItem{a, a, a}, []impl.ItmItem{b, c}},
		{"one that is not there", []impl.ItmItem{a, b}, []impl.ItmItem{c}, []impl.ItmItem{a, b}},
		{"one that is not there, and one that is", []impl.ItmItem{a, b}, []impl.ItmItem{c, b, c}, []impl.ItmItem{a}},
		{"nearly the same", []impl.ItmItem{rec(1, 0, 1)}, []impl.ItmItem{rec(2, 0, 1), rec(1, 1, 1), rec(1, 0, 2), {Kind: impl.ItmMark, T: 1, V: 1}, {Kind: impl.ItmRec, T: 1, V: 1, N: 1}}, []impl.ItmItem{rec(1, 0, 1)}},
		{"of any kind", []impl.ItmItem{mark(5), {}, wall(3), {}, rec(-1, 99, 99), mark(5)}, []impl.ItmItem{{}, mark(5), rec(-1, 99, 99)}, []impl.ItmItem{wall(3), {}, mark(5)}},
	} {
		if got := impl.SpcWithout(x.recs, x.others); !slices.Equal(got, x.want) {
			t.Errorf("%s: %v, not %v", x.name, got, x.want)
		}
		checkWithout(t, x.recs, x.others)
	}
}

func TestP51AnyItems(t *testing.T) {
	r := fixed()
	for range 5000 {
		of := append(anyItems(r, 4), rec(5, 0, 1))
		var recs, others []impl.ItmItem
		for range r.Intn(12) {
			recs = append(recs, pick(r, of))
		}
		for range r.Intn(12) {
			others = append(others, pick(r, append(of, anyItem(r))))
		}
		checkWithout(t, recs, others)
		if got := impl.SpcWithout(recs, recs); len(got) != 0 {
			t.Fatalf("%v without all: %v", recs, got)
		}
	}
	many := someRecs(r, 3000, 60, 4)
	checkWithout(t, many[:300], many[200:500])
	if got := impl.SpcWithout(many, many[:1000]); len(got) != 2000 {
		t.Fatalf("%d are left", len(got))
	}
}

func TestAllLeavesItsArguments(t *testing.T) {
	r := fixed()
	for range 1500 {
		j := anyJob(r)
		recs, others := guard(someRecs(r, r.Intn(20), 30, 3), rec(1, 1, 1)), guard(anyItems(r, 9), rec(1, 1, 1))
		pairs := impl.SpcPairs(j, recs.given)
		was := slices.Clone(pairs)
		fill(impl.SpcPairs(j, recs.given), impl.LatPair{Rec: rec(77, 77, 77)})
		rows := impl.SpcTable(j, recs.given)
		had := slices.Clone(rows)
		fill(impl.SpcTable(j, recs.given), impl.TabRow{Key: 77})
		fill(impl.SpcWithout(recs.given, others.given), rec(77, 77, 77))
		fill(impl.SpcWithout(recs.given, nil), rec(77, 77, 77))
		fill(impl.SpcWithout(others.given, recs.given), rec(77, 77, 77))
		recs.check(t, "a function of records")
		others.check(t, "SpcWithout")
		fill(recs.given, rec(78, 78, 78))
		if !slices.Equal(pairs, was) || !slices.Equal(rows, had) {
			t.Fatalf("%v: an answer has turned: %v %v", j, pairs, rows)
		}
	}
}

func TestAllAnswersAtEveryArgument(t *testing.T) {
	r := fixed()
	for range 5000 {
		j, recs, others := anyNumbersJob(r), anyItems(r, 8), anyItems(r, 8)
		if r.Intn(2) == 0 {
			recs = someRecs(r, r.Intn(125), 60, 4)
		}
		quiet(t, []any{j, recs, others}, func() {
			pairs, rows := impl.SpcPairs(j, recs), impl.SpcTable(j, recs)
			impl.SpcWithout(recs, others)
			if !isJob(j) && (len(pairs) != 0 || len(rows) != 0) {
				t.Fatalf("%v of %v: %v %v", j, recs, pairs, rows)
			}
		})
	}
	quiet(t, "nothing", func() {
		impl.SpcPairs(impl.JobJob{}, nil)
		impl.SpcTable(impl.JobJob{}, nil)
		impl.SpcWithout(nil, nil)
	})
}
