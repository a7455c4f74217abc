package tests

import (
	"fmt"
	"math"
	"math/rand"
	"slices"
	"strings"
	"testing"

	"loop.example/freshet/impl"
)

func TestNumbersOfPanes(t *testing.T) {
	got := []int{impl.PanTimely, impl.PanLate, impl.PanGone, impl.PanMaxNo}
	if want := []int{1, 2, 3, 1500}; !slices.Equal(got, want) {
		t.Fatal(got, want)
	}
}

func win(start, end int) impl.WinWin {
	return impl.WinWin{Start: start, End: end}
}

func row(key, start, end int, a impl.AggAgg) impl.TabRow {
	return impl.TabRow{Key: key, Win: win(start, end), Agg: a}
}

// one is what is known of one value.
func one(v int) impl.AggAgg {
	return agg(1, v, v, v)
}

func timely(key, start, end int, a impl.AggAgg) impl.PanPane {
	return impl.PanPane{Key: key, Win: win(start, end), Kind: impl.PanTimely, Agg: a}
}

func late(key, start, end, no int, a impl.AggAgg) impl.PanPane {
	return impl.PanPane{Key: key, Win: win(start, end), No: no, Kind: impl.PanLate, Agg: a}
}

func gone(key, start, end, no int) impl.PanPane {
	return impl.PanPane{Key: key, Win: win(start, end), No: no, Kind: impl.PanGone}
}

// isWindow says the same as WinOk, from the document's words.
func isWindow(w impl.WinWin) bool {
	return w.Start >= 0 && w.Start <= 60 && w.End > w.Start && w.End <= 120
}

// isPane says the same as PanOk, from the document's words.
func isPane(p impl.PanPane) bool {
	if p.Key < 0 || p.Key > 3 || !isWindow(p.Win) || p.No < 0 || p.No > 1500 || !isKnown(p.Agg) {
		return false
	}
	switch p.Kind {
	case impl.PanTimely:
		return p.No == 0 && p.Agg != impl.AggAgg{}
	case impl.PanLate:
		return p.No > 0 && p.Agg != impl.AggAgg{}
	case impl.PanGone:
		return p.No > 0 && p.Agg == impl.AggAgg{}
	}
	return false
}

// somePanes is panes that are ok, of a few keys and windows, of all kinds and at the limits.
func somePanes() []impl.PanPane {
	var all []impl.PanPane
	knowns := []impl.AggAgg{agg(1, 0, 0, 0), agg(1, 4, 4, 4), agg(2, -3, -5, 2), agg(2, 4, 1, 3), agg(11, 4, -5, 9), agg(1000, 9000, 9, 9), agg(1000, -9000, -9, -9)}
	for key := 0; key <= 3; key++ {
		for _, w := range []impl.WinWin{win(0, 1), win(0, 5), win(0, 51), win(5, 10), win(1, 11), win(11, 12), win(60, 61), win(60, 120), win(0, 120)} {
			for _, a := range knowns {
				all = append(all, timely(key, w.Start, w.End, a))
				for _, no := range []int{1, 2, 10, 11, 1499, 1500} {
					all = append(all, late(key, w.Start, w.End, no, a))
				}
			}
			for _, no := range []int{1, 2, 10, 11, 1499, 1500} {
				all = append(all, gone(key, w.Start, w.End, no))
			}
		}
	}
	return all
}

// brokenPanes is panes that are not ok, each by one thing alone.
func brokenPanes() []impl.PanPane {
	a := agg(2, -3, -5, 2)
	broken := []impl.PanPane{
		{}, timely(1, 3, 8, impl.AggAgg{}), late(1, 3, 8, 1, impl.AggAgg{}), late(1, 3, 8, 0, a),
		{Key: 1, Win: win(3, 8), No: 1, Kind: impl.PanTimely, Agg: a}, {Key: 1, Win: win(3, 8), No: 1, Kind: impl.PanGone, Agg: a}, {Key: 1, Win: win(3, 8), No: 0, Kind: impl.PanGone},
	}
	for _, p := range []impl.PanPane{timely(1, 3, 8, a), late(1, 3, 8, 7, a), gone(1, 3, 8, 7)} {
		for _, v := range []int{math.MinInt, -1, 4, math.MaxInt} {
			q := p
			q.Key = v
			broken = append(broken, q)
		}
		for _, v := range []int{math.MinInt, -1, 1501, math.MaxInt} {
			q := p
			q.No = v
			broken = append(broken, q)
		}
		for _, v := range []int{math.MinInt, -1, 0, 4, math.MaxInt} {
			q := p
			q.Kind = v
			broken = append(broken, q)
		}
		for _, w := range []impl.WinWin{{}, win(8, 8), win(8, 3), win(-1, 8), win(61, 62), win(60, 121), win(math.MinInt, 8), win(3, math.MaxInt), win(math.MaxInt, math.MinInt), win(math.MaxInt, math.MaxInt)} {
			q := p
			q.Win = w
			broken = append(broken, q)
		}
		for _, b := range []impl.AggAgg{agg(0, 1, 0, 0), agg(0, 0, -1, 0), agg(0, 0, 0, 1), agg(-1, 0, 0, 0), agg(1001, 0, 0, 0), agg(1, 3, 2, 2), agg(1, 10, 10, 10), agg(2, 0, 1, -1), agg(math.MaxInt, 0, 0, 0), agg(math.MinInt, 0, 0, 0), agg(1, math.MinInt, -9, 9)} {
			q := p
			q.Agg = b
			broken = append(broken, q)
		}
	}
	return broken
}

// anyRow is a row of a few keys and windows, now and then of any numbers.
func anyRow(r *rand.Rand) impl.TabRow {
	if r.Intn(9) == 0 {
		return row(pick(r, edges), pick(r, edges), pick(r, edges), agg(pick(r, edges), pick(r, edges), pick(r, edges), pick(r, edges)))
	}
	return row(r.Intn(3), r.Intn(3), 2+r.Intn(3), knownOf(someValues(r, r.Intn(4))))
}

func anyRows(r *rand.Rand, most int) []impl.TabRow {
	return several(r, most, anyRow)
}

// anyPane is a pane of a few keys and windows, now and then of any numbers.
func anyPane(r *rand.Rand) impl.PanPane {
	x := anyRow(r)
	p := impl.PanPane{Key: x.Key, Win: x.Win, No: r.Intn(3), Kind: r.Intn(5), Agg: x.Agg}
	if r.Intn(12) == 0 {
		p.No, p.Kind = pick(r, edges), pick(r, edges)
	}
	return p
}

func anyPanes(r *rand.Rand, most int) []impl.PanPane {
	return several(r, most, anyPane)
}

// soundPanes is panes of several windows and keys, mixed, that are sound.
func soundPanes(r *rand.Rand, most int) []impl.PanPane {
	var panes []impl.PanPane
	next, over := map[impl.TabRow]int{}, map[impl.TabRow]bool{}
	for range r.Intn(most + 1) {
		at := row(r.Intn(3), r.Intn(3), 3+r.Intn(2), impl.AggAgg{})
		if over[at] {
			continue
		}
		a := knownOf(someValues(r, 1+r.Intn(4)))
		switch {
		case next[at] == 0:
			panes = append(panes, timely(at.Key, at.Win.Start, at.Win.End, a))
		case r.Intn(4) == 0:
			panes = append(panes, gone(at.Key, at.Win.Start, at.Win.End, next[at]))
			over[at] = true
		default:
			panes = append(panes, late(at.Key, at.Win.Start, at.Win.End, next[at], a))
		}
		next[at]++
	}
	return panes
}

// fewRows is rows that differ from each other by key, Start, End, or what is known alone.
func fewRows() []impl.TabRow {
	return []impl.TabRow{
		row(1, 5, 9, one(4)), row(1, 5, 9, one(-2)), row(0, 5, 9, one(4)), row(2, 5, 9, one(4)), row(1, 4, 9, one(4)), row(1, 6, 9, one(4)), row(1, 5, 8, one(4)), row(1, 5, 10, one(4)),
	}
}

func TestPanOkLeastGreatestAndOneBeyond(t *testing.T) {
	a := agg(2, -3, -5, 2)
	for _, c := range []struct {
		p  impl.PanPane
		ok bool
	}{
		{timely(0, 0, 1, a), true}, {timely(3, 60, 120, a), true}, {timely(-1, 0, 1, a), false}, {timely(4, 0, 1, a), false}, {timely(0, 0, 0, a), false}, {timely(0, 60, 121, a), false}, {timely(0, 61, 70, a), false}, {timely(0, -1, 1, a), false},
		{late(0, 0, 1, 0, a), false}, {late(0, 0, 1, 1, a), true}, {late(0, 0, 1, 1500, a), true}, {late(0, 0, 1, 1501, a), false}, {late(0, 0, 1, -1, a), false},
		{gone(0, 0, 1, 0), false}, {gone(0, 0, 1, 1), true}, {gone(0, 0, 1, 1500), true}, {gone(0, 0, 1, 1501), false}, {gone(0, 0, 1, -1), false},
		{timely(0, 0, 1, one(9)), true}, {timely(0, 0, 1, one(10)), false}, {timely(0, 0, 1, agg(1000, 0, 0, 0)), true}, {timely(0, 0, 1, agg(1001, 0, 0, 0)), false}, {timely(0, 0, 1, impl.AggAgg{}), false},
		{late(0, 0, 1, 1, impl.AggAgg{}), false}, {late(0, 0, 1, 1, one(-9)), true}, {late(0, 0, 1, 1, one(-10)), false},
	} {
		if impl.PanOk(c.p) != c.ok {
			t.Errorf("%v: %v", c.p, impl.PanOk(c.p))
		}
	}
}

func TestPanOkOfAnyNumbers(t *testing.T) {
	for _, p := range somePanes() {
		if !impl.PanOk(p) {
			t.Fatalf("%v is ok", p)
		}
	}
	for _, p := range brokenPanes() {
		if impl.PanOk(p) || isPane(p) {
			t.Fatalf("%v is not ok", p)
		}
	}
	a := agg(2, -3, -5, 2)
	for _, n := range edges {
		for _, m := range append(slices.Clone(edges), 1499, 1500, 1501) {
			for _, p := range []impl.PanPane{
				{Key: n, Win: win(3, 8), No: m, Kind: impl.PanLate, Agg: a}, {Key: 1, Win: win(n, m), Kind: impl.PanTimely, Agg: a},
				{Key: 1, Win: win(3, 8), No: m, Kind: n, Agg: a}, {Key: 1, Win: win(3, 8), No: m, Kind: n}, {Key: 1, Win: win(3, 8), No: 1, Kind: impl.PanLate, Agg: agg(n, m, -9, 9)},
				{Key: 1, Win: win(3, 8), No: 1, Kind: impl.PanGone, Agg: agg(0, n, m, 0)},
			} {
				if impl.PanOk(p) != isPane(p) {
					t.Fatalf("%v: %v", p, impl.PanOk(p))
				}
			}
		}
	}
	r := fixed()
	for range 50000 {
		if p := anyPane(r); impl.PanOk(p) != isPane(p) {
			t.Fatalf("%v: %v", p, impl.PanOk(p))
		}
	}
}

func TestP52Texts(t *testing.T) {
	a := agg(2, -3, -5, 4)
	for _, c := range []struct {
		p    impl.PanPane
		tell int
		want string
	}{
		{timely(0, 1, 6, one(4)), impl.AggSum, "key 0 window 1..6 pane 0 timely 4"},
		{gone(0, 1, 6, 1), impl.AggSum, "key 0 window 1..6 pane 1 gone"},
		{timely(3, 60, 120, a), impl.AggCount, "key 3 window 60..120 pane 0 timely 2"},
		{timely(3, 60, 120, a), impl.AggSum, "key 3 window 60..120 pane 0 timely -3"},
		{late(3, 60, 120, 1, a), impl.AggLeast, "key 3 window 60..120 pane 1 late -5"},
		{late(2, 0, 1, 1500, a), impl.AggMost, "key 2 window 0..1 pane 1500 late 4"},
		{late(2, 0, 1, 10, agg(1000, -9000, -9, -9)), impl.AggSum, "key 2 window 0..1 pane 10 late -9000"},
		{gone(1, 0, 10, 1500), impl.AggCount, "key 1 window 0..10 pane 1500 gone"},
		{gone(1, 0, 10, 2), impl.AggMost, "key 1 window 0..10 pane 2 gone"},
		{timely(1, 0, 10, one(0)), impl.AggMost, "key 1 window 0..10 pane 0 timely 0"},
		{timely(1, 0, 10, one(4)), 0, ""}, {timely(1, 0, 10, one(4)), 5, ""}, {timely(1, 0, 10, one(4)), -1, ""}, {timely(1, 0, 10, one(4)), math.MaxInt, ""}, {timely(1, 0, 10, one(4)), math.MinInt, ""},
		{late(1, 0, 10, 1, one(4)), 0, ""}, {late(1, 0, 10, 1, one(4)), 5, ""}, {gone(1, 0, 10, 2), 0, ""}, {gone(1, 0, 10, 2), 5, ""},
		{impl.PanPane{}, impl.AggSum, ""},
	} {
		if got := impl.PanText(c.p, c.tell); got != c.want {
			t.Errorf("%v, %d: %q, not %q", c.p, c.tell, got, c.want)
		}
	}
}

func TestP52OneTextOnePane(t *testing.T) {
	type told struct {
		key, no, kind, tell int
		win                 impl.WinWin
	}
	for tell := 1; tell <= 4; tell++ {
		of := map[string]told{}
		for _, p := range somePanes() {
			text := impl.PanText(p, tell)
			x := told{key: p.Key, no: p.No, kind: p.Kind, win: p.Win, tell: []int{p.Agg.N, p.Agg.Sum, p.Agg.Least, p.Agg.Most}[tell-1]}
			if y, is := of[text]; is && x != y {
				t.Fatalf("%q is of %v and of %v", text, x, y)
			}
			of[text] = x
			word, number := map[int]string{1: "timely", 2: "late", 3: "gone"}[p.Kind], fmt.Sprintf(" %d", x.tell)
			if p.Kind == impl.PanGone {
				number = ""
			}
			if want := fmt.Sprintf("key %d window %d..%d pane %d %s%s", p.Key, p.Win.Start, p.Win.End, p.No, word, number); text != want {
				t.Fatalf("%v, %d: %q, not %q", p, tell, text, want)
			}
		}
		if len(of) < 1000 {
			t.Fatalf("only %d texts", len(of))
		}
	}
}

func TestP52NoTextOfWhatIsNotOk(t *testing.T) {
	for _, p := range brokenPanes() {
		for tell := -1; tell <= 6; tell++ {
			if got := impl.PanText(p, tell); got != "" {
				t.Fatalf("%v, %d: %q", p, tell, got)
			}
		}
	}
	r := fixed()
	for range 20000 {
		p, tell := anyPane(r), pick(r, edges)
		if got, want := impl.PanText(p, tell) != "", isPane(p) && tell >= 1 && tell <= 4; got != want {
			t.Fatalf("%v, %d: %q", p, tell, impl.PanText(p, tell))
		}
	}
}

func TestP53PanesOfAWindow(t *testing.T) {
	a, b := one(4), one(-2)
	panes := []impl.PanPane{timely(1, 5, 9, a), timely(0, 5, 9, b), late(1, 5, 9, 1, b), timely(1, 4, 9, a), timely(1, 5, 10, b), gone(1, 5, 9, 2), {Key: 1, Win: win(5, 9), No: -7, Kind: 12, Agg: agg(-1, 2, 3, 4)}, timely(1, 5, 9, a), {Key: -1, Win: win(9, 5)}}
	for _, c := range []struct {
		key, start, end int
		want            []int
	}{
		{1, 5, 9, []int{0, 2, 5, 6, 7}}, {0, 5, 9, []int{1}}, {1, 4, 9, []int{3}}, {1, 5, 10, []int{4}}, {-1, 9, 5, []int{8}}, {2, 5, 9, nil}, {1, 5, 8, nil}, {1, 6, 9, nil}, {0, 0, 0, nil}, {math.MinInt, math.MaxInt, math.MinInt, nil},
	} {
		var want []impl.PanPane
		for _, i := range c.want {
			want = append(want, panes[i])
		}
		if got := impl.PanOf(panes, c.key, win(c.start, c.end)); !slices.Equal(got, want) {
			t.Errorf("%d %d..%d: %v, not %v", c.key, c.start, c.end, got, want)
		}
	}
	if got := impl.PanOf(nil, 0, win(0, 0)); len(got) != 0 {
		t.Error("of none", got)
	}
}

func TestP53PanesOfAnyPanes(t *testing.T) {
	r := fixed()
	for range 5000 {
		panes := anyPanes(r, 12)
		at := anyRow(r)
		if len(panes) > 0 && r.Intn(2) == 0 {
			p := pick(r, panes)
			at.Key, at.Win = p.Key, p.Win
		}
		var want []impl.PanPane
		for _, p := range panes {
			if p.Key == at.Key && p.Win.Start == at.Win.Start && p.Win.End == at.Win.End {
				want = append(want, p)
			}
		}
		if got := impl.PanOf(panes, at.Key, at.Win); !slices.Equal(got, want) {
			t.Fatalf("%v of %v: %v, not %v", at, panes, got, want)
		}
	}
}

// isSound says the same as PanSound, from the promise's words, window by window.
func isSound(panes []impl.PanPane) bool {
	for i, p := range panes {
		if !isPane(p) {
			return false
		}
		var ahead []impl.PanPane
		for _, q := range panes[:i] {
			if q.Key == p.Key && q.Win == p.Win {
				ahead = append(ahead, q)
			}
		}
		if p.No != len(ahead) || (p.Kind == impl.PanTimely) != (len(ahead) == 0) {
			return false
		}
		for _, q := range ahead {
			if q.Kind == impl.PanGone {
				return false
			}
		}
	}
	return true
}

func TestP54WhatIsSound(t *testing.T) {
	a := one(4)
	for _, c := range []struct {
		name  string
		panes []impl.PanPane
		sound bool
	}{
		{"none", nil, true},
		{"one", []impl.PanPane{timely(0, 0, 5, a)}, true},
		{"one that is late", []impl.PanPane{late(0, 0, 5, 1, a)}, false},
		{"one that is gone", []impl.PanPane{gone(0, 0, 5, 1)}, false},
		{"late", []impl.PanPane{timely(0, 0, 5, a), late(0, 0, 5, 1, a), late(0, 0, 5, 2, a)}, true},
		{"late, then gone", []impl.PanPane{timely(0, 0, 5, a), late(0, 0, 5, 1, a), gone(0, 0, 5, 2)}, true},
		{"gone", []impl.PanPane{timely(0, 0, 5, a), gone(0, 0, 5, 1)}, true},
		{"late behind gone", []impl.PanPane{timely(0, 0, 5, a), gone(0, 0, 5, 1), late(0, 0, 5, 2, a)}, false},
		{"gone twice", []impl.PanPane{timely(0, 0, 5, a), gone(0, 0, 5, 1), gone(0, 0, 5, 2)}, false},
		{"in time behind gone", []impl.PanPane{timely(0, 0, 5, a), gone(0, 0, 5, 1), timely(0, 0, 5, a)}, false},
		{"gone far ahead", []impl.PanPane{timely(0, 0, 5, a), gone(0, 0, 5, 1), timely(1, 0, 5, a), late(1, 0, 5, 1, a), late(0, 0, 5, 2, a)}, false},
		{"another window behind gone", []impl.PanPane{timely(0, 0, 5, a), gone(0, 0, 5, 1), timely(0, 0, 6, a), timely(1, 0, 5, a), timely(0, 1, 5, a)}, true},
		{"in time twice", []impl.PanPane{timely(0, 0, 5, a), timely(0, 0, 5, a)}, false},
		{"in time behind late", []impl.PanPane{timely(0, 0, 5, a), late(0, 0, 5, 1, a), timely(0, 0, 5, a)}, false},
		{"a No left out", []impl.PanPane{timely(0, 0, 5, a), late(0, 0, 5, 2, a)}, false},
		{"a No twice", []impl.PanPane{timely(0, 0, 5, a), late(0, 0, 5, 1, a), late(0, 0, 5, 1, a)}, false},
		{"gone with a No left out", []impl.PanPane{timely(0, 0, 5, a), gone(0, 0, 5, 2)}, false},
		{"gone with a No twice", []impl.PanPane{timely(0, 0, 5, a), late(0, 0, 5, 1, a), gone(0, 0, 5, 1)}, false},
		{"the wrong way round", []impl.PanPane{late(0, 0, 5, 1, a), timely(0, 0, 5, a)}, false},
		{"mixed", []impl.PanPane{timely(0, 0, 5, a), timely(1, 0, 5, a), late(1, 0, 5, 1, a), late(0, 0, 5, 1, a), timely(0, 5, 10, a), late(1, 0, 5, 2, a), gone(0, 0, 5, 2), late(0, 5, 10, 1, a)}, true},
		{"numbered over keys", []impl.PanPane{timely(0, 0, 5, a), late(1, 0, 5, 1, a)}, false},
		{"numbered over starts", []impl.PanPane{timely(0, 0, 5, a), late(0, 1, 5, 1, a)}, false},
		{"numbered over ends", []impl.PanPane{timely(0, 0, 5, a), late(0, 0, 6, 1, a)}, false},
		{"one that is not ok at the end", []impl.PanPane{timely(0, 0, 5, a), timely(4, 0, 5, a)}, false},
		{"one that is not ok at the beginning", []impl.PanPane{timely(0, 5, 5, a), timely(1, 0, 5, a)}, false},
	} {
		if got := impl.PanSound(c.panes); got != c.sound || isSound(c.panes) != c.sound {
			t.Errorf("%s: %v", c.name, got)
		}
	}
}

func TestP54OnePaneThatIsNotOk(t *testing.T) {
	for _, p := range brokenPanes() {
		ahead := []impl.PanPane{timely(2, 0, 5, one(1))}
		for no := range max(0, min(p.No, 9)) {
			q := late(1, 3, 8, no, one(2))
			if no == 0 {
				q.Kind = impl.PanTimely
			}
			ahead = append(ahead, q)
		}
		if !impl.PanSound(ahead) || impl.PanSound(append(ahead, p)) {
			t.Fatalf("%v behind %v", p, ahead)
		}
	}
}

func TestP54AnyPanes(t *testing.T) {
	r := fixed()
	sound := 0
	for range 4000 {
		panes := soundPanes(r, 30)
		for i := range panes {
			if !impl.PanSound(panes[:i]) {
				t.Fatalf("the first %d of %v", i, panes)
			}
		}
		if !impl.PanSound(panes) || !isSound(panes) {
			t.Fatalf("%v is sound", panes)
		}
		if len(panes) == 0 {
			continue
		}
		switch i, k := r.Intn(len(panes)), r.Intn(len(panes)); r.Intn(6) {
		case 0:
			panes = slices.Delete(panes, i, i+1)
		case 1:
			panes = slices.Insert(panes, i, panes[k])
		case 2:
			panes[i], panes[k] = panes[k], panes[i]
		case 3:
			panes[i].No += r.Intn(3) - 1
		case 4:
			panes[i].Kind, panes[i].Agg = 1+r.Intn(3), pick(r, []impl.AggAgg{{}, one(3)})
		case 5:
			panes[i] = anyPane(r)
		}
		if impl.PanSound(panes) != isSound(panes) {
			t.Fatalf("%v: %v", panes, impl.PanSound(panes))
		}
		if isSound(panes) {
			sound++
		}
	}
	if sound < 300 || sound > 3000 {
		t.Fatalf("%d were sound", sound)
	}
	for range 4000 {
		if panes := anyPanes(r, 3); impl.PanSound(panes) != isSound(panes) {
			t.Fatalf("%v: %v", panes, impl.PanSound(panes))
		}
	}
}

func TestP54AsManyAsMayBe(t *testing.T) {
	panes := []impl.PanPane{timely(2, 7, 9, one(1))}
	for no := 1; no <= 1500; no++ {
		panes = append(panes, late(2, 7, 9, no, one(1)))
	}
	if !impl.PanSound(panes) {
		t.Fatal("as many as may be")
	}
	if impl.PanSound(append(panes, late(2, 7, 9, 1501, one(1)))) {
		t.Fatal("one more than may be")
	}
}

func TestP55WhichTimesAreInTheWindow(t *testing.T) {
	for _, c := range []struct {
		at, start, end int
		ok             bool
	}{
		{5, 5, 9, true}, {4, 5, 9, false}, {6, 5, 9, true}, {8, 5, 9, true}, {9, 5, 9, false}, {10, 5, 9, false},
		{0, 0, 1, true}, {1, 0, 1, false}, {60, 60, 61, true}, {60, 59, 60, false}, {59, 59, 60, true}, {60, 0, 120, true}, {0, 0, 120, true}, {60, 60, 120, true}, {59, 60, 120, false},
		{-1, 0, 5, false}, {61, 60, 70, false}, {5, 5, 5, false}, {5, 9, 5, false}, {5, 5, 121, false}, {5, -1, 9, false}, {60, 61, 70, false}, {61, 61, 70, false}, {-1, -1, 5, false},
	} {
		if got := impl.LatOk(impl.LatPair{Rec: rec(c.at, 1, -3), Win: win(c.start, c.end)}); got != c.ok {
			t.Errorf("%d in %d..%d: %v", c.at, c.start, c.end, got)
		}
	}
}

func TestP55WhatIsNoRecordThatIsOk(t *testing.T) {
	for _, x := range []impl.ItmItem{
		{}, mark(7), wall(7), {Kind: impl.ItmRec, T: 7, N: 1}, {Kind: 0, T: 7}, {Kind: 4, T: 7}, rec(7, -1, 0), rec(7, 4, 0), rec(7, 0, 10), rec(7, 0, -10), {Kind: math.MaxInt, T: 7}, {Kind: math.MinInt, T: 7},
		rec(7, math.MaxInt, 0), rec(7, 0, math.MinInt),
	} {
		if impl.LatOk(impl.LatPair{Rec: x, Win: win(5, 9)}) {
			t.Errorf("%v", x)
		}
	}
	if impl.LatOk(impl.LatPair{Rec: impl.ItmItem{Kind: impl.ItmWall, N: 1}, Win: win(0, 9)}) || impl.LatOk(impl.LatPair{}) {
		t.Error("a wall, or nothing")
	}
	for _, x := range []impl.ItmItem{rec(7, 0, 0), rec(7, 3, 9), rec(7, 0, -9)} {
		if !impl.LatOk(impl.LatPair{Rec: x, Win: win(5, 9)}) {
			t.Errorf("%v", x)
		}
	}
}

func TestP55AnyPairs(t *testing.T) {
	r := fixed()
	for range 20000 {
		l := impl.LatPair{Rec: anyItem(r), Win: win(r.Intn(64)-1, r.Intn(124)-1)}
		if r.Intn(8) == 0 {
			l.Win = win(pick(r, edges), pick(r, edges))
		}
		x := l.Rec
		want := x.Kind == 1 && x.T >= 0 && x.T <= 60 && x.Key >= 0 && x.Key <= 3 && x.V >= -9 && x.V <= 9 && x.N == 0 && isWindow(l.Win) && has(l.Win, x.T)
		if got := impl.LatOk(l); got != want {
			t.Fatalf("%v: %v", l, got)
		}
	}
}

func TestP55TheRecordsInOrder(t *testing.T) {
	r := fixed()
	for range 500 {
		var pairs []impl.LatPair
		recs := anyItems(r, 12)
		for _, x := range recs {
			pairs = append(pairs, impl.LatPair{Rec: x, Win: win(pick(r, edges), pick(r, edges))})
		}
		if got := impl.LatRecs(pairs); !slices.Equal(got, recs) {
			t.Fatalf("%v: %v", pairs, got)
		}
	}
	if got := impl.LatRecs([]impl.LatPair{{Rec: rec(5, 0, 1), Win: win(9, 5)}, {}, {Rec: rec(5, 0, 1), Win: win(0, 9)}, {Rec: mark(3)}}); !slices.Equal(got, []impl.ItmItem{rec(5, 0, 1), {}, rec(5, 0, 1), mark(3)}) {
		t.Error(got)
	}
	if got := impl.LatRecs(nil); len(got) != 0 {
		t.Error("of none", got)
	}
}

// isOf says whether a row is of a window of a key.
func isOf(x impl.TabRow, key int, w impl.WinWin) bool {
	return x.Key == key && x.Win.Start == w.Start && x.Win.End == w.End
}

// isBehind says whether a row stands behind another one in a table.
func isBehind(x, y impl.TabRow) bool {
	switch {
	case x.Key != y.Key:
		return x.Key > y.Key
	case x.Win.Start != y.Win.Start:
		return x.Win.Start > y.Win.Start
	}
	return x.Win.End > y.Win.End
}

// found, without and put say the same as TabFind, TabOut and TabPut, from the document's words.
func found(rows []impl.TabRow, key int, w impl.WinWin) (impl.AggAgg, bool) {
	i := slices.IndexFunc(rows, func(x impl.TabRow) bool { return isOf(x, key, w) })
	if i < 0 {
		return impl.AggAgg{}, false
	}
	return rows[i].Agg, true
}

func without(rows []impl.TabRow, key int, w impl.WinWin) []impl.TabRow {
	return slices.DeleteFunc(slices.Clone(rows), func(x impl.TabRow) bool { return isOf(x, key, w) })
}

func put(rows []impl.TabRow, r impl.TabRow) []impl.TabRow {
	rest := without(rows, r.Key, r.Win)
	for i, x := range rest {
		if isBehind(x, r) {
			return slices.Insert(rest, i, r)
		}
	}
	return append(rest, r)
}

func TestP56WhereARowIsPut(t *testing.T) {
	a, b, c := row(0, 2, 5, one(1)), row(1, 2, 5, one(2)), row(1, 4, 5, one(3))
	for _, x := range []struct {
		name string
		rows []impl.TabRow
		r    impl.TabRow
		want []impl.TabRow
	}{
		{"into none", nil, a, []impl.TabRow{a}},
		{"ahead of all", []impl.TabRow{b, c}, a, []impl.TabRow{a, b, c}},
		{"between", []impl.TabRow{a, c}, b, []impl.TabRow{a, b, c}},
		{"behind all", []impl.TabRow{a, b}, c, []impl.TabRow{a, b, c}},
		{"in the place of the first", []impl.TabRow{a, b, c}, row(0, 2, 5, one(9)), []impl.TabRow{row(0, 2, 5, one(9)), b, c}},
		{"in the place of one between", []impl.TabRow{a, b, c}, row(1, 2, 5, one(9)), []impl.TabRow{a, row(1, 2, 5, one(9)), c}},
		{"in the place of the last", []impl.TabRow{a, b, c}, row(1, 4, 5, one(9)), []impl.TabRow{a, b, row(1, 4, 5, one(9))}},
		{"by Key ahead of Start", []impl.TabRow{row(0, 9, 10, one(1)), row(2, 0, 1, one(1))}, row(1, 4, 5, one(3)), []impl.TabRow{row(0, 9, 10, one(1)), row(1, 4, 5, one(3)), row(2, 0, 1, one(1))}},
		{"by Start ahead of End", []impl.TabRow{row(0, 3, 10, one(1)), row(0, 5, 6, one(1))}, row(0, 4, 7, one(3)), []impl.TabRow{row(0, 3, 10, one(1)), row(0, 4, 7, one(3)), row(0, 5, 6, one(1))}},
		{"by End", []impl.TabRow{row(0, 3, 6, one(1)), row(0, 3, 8, one(1))}, row(0, 3, 7, one(3)), []impl.TabRow{row(0, 3, 6, one(1)), row(0, 3, 7, one(3)), row(0, 3, 8, one(1))}},
		{"not in order", []impl.TabRow{c, a, b}, row(1, 3, 5, one(9)), []impl.TabRow{row(1, 3, 5, one(9)), c, a, b}},
		{"not in order, behind", []impl.TabRow{b, a, c, a}, row(1, 3, 5, one(9)), []impl.TabRow{b, a, row(1, 3, 5, one(9)), c, a}},
		{"not in order, in the place of several", []impl.TabRow{c, b, a, b, c, b}, row(1, 2, 5, one(9)), []impl.TabRow{row(1, 2, 5, one(9)), c, a, c}},
		{"not in order, at the end", []impl.TabRow{c, b, a}, row(3, 2, 5, one(9)), []impl.TabRow{c, b, a, row(3, 2, 5, one(9))}},
		{"several of others stay", []impl.TabRow{a, a, c, c}, b, []impl.TabRow{a, a, b, c, c}},
		{"as small as may be", []impl.TabRow{row(math.MinInt, math.MinInt, 0, one(1)), a}, row(math.MinInt, math.MinInt, math.MinInt, one(1)), []impl.TabRow{row(math.MinInt, math.MinInt, math.MinInt, one(1)), row(math.MinInt, math.MinInt, 0, one(1)), a}},
		{"as great as may be", []impl.TabRow{row(math.MinInt, 0, 0, one(1)), a}, row(math.MaxInt, 0, 0, one(1)), []impl.TabRow{row(math.MinInt, 0, 0, one(1)), a, row(math.MaxInt, 0, 0, one(1))}},
		{"great behind small", []impl.TabRow{row(0, math.MaxInt, 0, one(1))}, row(0, math.MinInt, 0, one(1)), []impl.TabRow{row(0, math.MinInt, 0, one(1)), row(0, math.MaxInt, 0, one(1))}},
		{"that is not ok, and knows nothing", []impl.TabRow{a}, impl.TabRow{}, []impl.TabRow{{}, a}},
	} {
		if got := impl.TabPut(x.rows, x.r); !slices.Equal(got, x.want) || !slices.Equal(put(x.rows, x.r), x.want) {
			t.Errorf("%s: %v, not %v", x.name, got, x.want)
		}
	}
}

func checkPut(t *testing.T, rows []impl.TabRow, r impl.TabRow) {
	t.Helper()
	got := impl.TabPut(rows, r)
	if !slices.Equal(got, put(rows, r)) {
		t.Fatalf("%v into %v: %v, not %v", r, rows, got, put(rows, r))
	}
	if a, is := impl.TabFind(got, r.Key, r.Win); !is || a != r.Agg {
		t.Fatalf("%v into %v is found as %v %v", r, rows, a, is)
	}
	for _, x := range append(slices.Clone(rows), fewRows()...) {
		if isOf(x, r.Key, r.Win) {
			continue
		}
		was, ahead := impl.TabFind(rows, x.Key, x.Win)
		if a, is := impl.TabFind(got, x.Key, x.Win); a != was || is != ahead {
			t.Fatalf("%v, with %v put into %v, is found as %v %v, not %v %v", x, r, rows, a, is, was, ahead)
		}
	}
}

func TestP56FindWhatWasPut(t *testing.T) {
	for _, rows := range lists(3, fewRows()...) {
		for _, r := range fewRows() {
			checkPut(t, rows, r)
		}
	}
	r := fixed()
	for range 5000 {
		rows, x := anyRows(r, 9), anyRow(r)
		if len(rows) > 0 && r.Intn(2) == 0 {
			y := pick(r, rows)
			x.Key, x.Win = y.Key, y.Win
		}
		checkPut(t, rows, x)
	}
}

func TestP56TheFirstIsFound(t *testing.T) {
	rows := []impl.TabRow{row(1, 5, 9, one(4)), row(0, 5, 9, one(3)), row(1, 5, 9, one(-2)), row(2, 9, 5, agg(-1, 2, 3, 4)), row(3, 0, 1, impl.AggAgg{})}
	for _, c := range []struct {
		key, start, end int
		want            impl.AggAgg
		is              bool
	}{
		{1, 5, 9, one(4), true}, {0, 5, 9, one(3), true}, {2, 9, 5, agg(-1, 2, 3, 4), true}, {3, 0, 1, impl.AggAgg{}, true},
		{2, 5, 9, impl.AggAgg{}, false}, {1, 4, 9, impl.AggAgg{}, false}, {1, 6, 9, impl.AggAgg{}, false}, {1, 5, 8, impl.AggAgg{}, false}, {1, 5, 10, impl.AggAgg{}, false}, {0, 0, 0, impl.AggAgg{}, false}, {math.MinInt, math.MaxInt, 0, impl.AggAgg{}, false},
	} {
		if got, is := impl.TabFind(rows, c.key, win(c.start, c.end)); got != c.want || is != c.is {
			t.Errorf("%d %d..%d: %v %v", c.key, c.start, c.end, got, is)
		}
	}
	if got, is := impl.TabFind(nil, 0, impl.WinWin{}); got != (impl.AggAgg{}) || is {
		t.Error("in none", got, is)
	}
	r := fixed()
	for range 5000 {
		rows, x := anyRows(r, 9), anyRow(r)
		want, is := found(rows, x.Key, x.Win)
		if got, has := impl.TabFind(rows, x.Key, x.Win); got != want || has != is {
			t.Fatalf("%v in %v: %v %v", x, rows, got, has)
		}
	}
}

func TestP57WithoutAllOfAWindow(t *testing.T) {
	a, b, c := row(1, 5, 9, one(4)), row(1, 5, 9, one(-2)), row(0, 5, 9, one(3))
	for _, x := range []struct {
		rows []impl.TabRow
		want []impl.TabRow
	}{
		{nil, nil}, {[]impl.TabRow{a}, nil}, {[]impl.TabRow{a, b, a}, nil}, {[]impl.TabRow{c}, []impl.TabRow{c}}, {[]impl.TabRow{a, c, b, c, a}, []impl.TabRow{c, c}},
		{[]impl.TabRow{row(2, 5, 9, one(4)), a, row(1, 4, 9, one(4)), b, row(1, 5, 8, one(4)), c}, []impl.TabRow{row(2, 5, 9, one(4)), row(1, 4, 9, one(4)), row(1, 5, 8, one(4)), c}},
	} {
		if got := impl.TabOut(x.rows, 1, win(5, 9)); !slices.Equal(got, x.want) {
			t.Errorf("%v: %v, not %v", x.rows, got, x.want)
		}
	}
	for _, rows := range lists(3, fewRows()...) {
		for _, x := range fewRows() {
			if got := impl.TabOut(rows, x.Key, x.Win); !slices.Equal(got, without(rows, x.Key, x.Win)) {
				t.Fatalf("%v of %v: %v", x, rows, got)
			}
		}
	}
	r := fixed()
	for range 5000 {
		rows, x := anyRows(r, 12), anyRow(r)
		got := impl.TabOut(rows, x.Key, x.Win)
		if !slices.Equal(got, without(rows, x.Key, x.Win)) {
			t.Fatalf("%v of %v: %v", x, rows, got)
		}
		if _, is := impl.TabFind(got, x.Key, x.Win); is {
			t.Fatalf("%v of %v is still there", x, rows)
		}
	}
}

// tableOf says the same as TabOf, from the document's words, pane by pane.
func tableOf(panes []impl.PanPane, piece bool) []impl.TabRow {
	var rows []impl.TabRow
	for _, p := range panes {
		rows = turned(rows, p, piece)
	}
	return rows
}

// turned is a table with one pane more.
func turned(rows []impl.TabRow, p impl.PanPane, piece bool) []impl.TabRow {
	if p.Kind == impl.PanGone {
		return without(rows, p.Key, p.Win)
	}
	a := p.Agg
	if piece {
		known, _ := found(rows, p.Key, p.Win)
		a = impl.AggBoth(known, a)
	}
	return put(rows, impl.TabRow{Key: p.Key, Win: p.Win, Agg: a})
}

func TestP58WhichPaneTakesWhosePlace(t *testing.T) {
	a, b := agg(2, -3, -5, 2), one(4)
	for _, c := range []struct {
		name   string
		panes  []impl.PanPane
		all    []impl.TabRow
		pieces []impl.TabRow
	}{
		{"none", nil, nil, nil},
		{"one", []impl.PanPane{timely(0, 0, 5, a)}, []impl.TabRow{row(0, 0, 5, a)}, []impl.TabRow{row(0, 0, 5, a)}},
		{"late", []impl.PanPane{timely(0, 0, 5, a), late(0, 0, 5, 1, b)}, []impl.TabRow{row(0, 0, 5, b)}, []impl.TabRow{row(0, 0, 5, agg(3, 1, -5, 4))}},
		{"late twice", []impl.PanPane{timely(0, 0, 5, b), late(0, 0, 5, 1, b), late(0, 0, 5, 2, a)}, []impl.TabRow{row(0, 0, 5, a)}, []impl.TabRow{row(0, 0, 5, agg(4, 5, -5, 4))}},
		{"gone", []impl.PanPane{timely(0, 0, 5, a), gone(0, 0, 5, 1)}, nil, nil},
		{"gone that was not there", []impl.PanPane{gone(0, 0, 5, 1)}, nil, nil},
		{"gone of another one", []impl.PanPane{timely(0, 0, 5, a), gone(0, 0, 6, 1), gone(1, 0, 5, 1), gone(0, 1, 5, 1)}, []impl.TabRow{row(0, 0, 5, a)}, []impl.TabRow{row(0, 0, 5, a)}},
		{"again behind gone", []impl.PanPane{timely(0, 0, 5, a), gone(0, 0, 5, 1), timely(0, 0, 5, b)}, []impl.TabRow{row(0, 0, 5, b)}, []impl.TabRow{row(0, 0, 5, b)}},
		{"in order", []impl.PanPane{timely(1, 0, 5, a), timely(0, 5, 10, b), timely(0, 0, 6, a), timely(0, 0, 5, b)}, []impl.TabRow{row(0, 0, 5, b), row(0, 0, 6, a), row(0, 5, 10, b), row(1, 0, 5, a)}, []impl.TabRow{row(0, 0, 5, b), row(0, 0, 6, a), row(0, 5, 10, b), row(1, 0, 5, a)}},
		{"sessions that become one", []impl.PanPane{timely(0, 1, 6, b), gone(0, 1, 6, 1), timely(0, 1, 14, a)}, []impl.TabRow{row(0, 1, 14, a)}, []impl.TabRow{row(0, 1, 14, a)}},
		{"of no kind", []impl.PanPane{{Key: 9, Win: win(5, 1), No: -1, Kind: 0, Agg: a}, {Key: 9, Win: win(5, 1), No: 7, Kind: 4, Agg: b}}, []impl.TabRow{row(9, 5, 1, b)}, []impl.TabRow{row(9, 5, 1, agg(3, 1, -5, 4))}},
		{"gone with something known", []impl.PanPane{timely(0, 0, 5, a), {Win: win(0, 5), Kind: impl.PanGone, Agg: b}}, nil, nil},
		{"nothing known", []impl.PanPane{timely(0, 0, 5, impl.AggAgg{})}, []impl.TabRow{row(0, 0, 5, impl.AggAgg{})}, []impl.TabRow{row(0, 0, 5, impl.AggAgg{})}},
		{"nothing known behind something", []impl.PanPane{timely(0, 0, 5, a), late(0, 0, 5, 1, impl.AggAgg{})}, []impl.TabRow{row(0, 0, 5, impl.AggAgg{})}, []impl.TabRow{row(0, 0, 5, a)}},
	} {
		if got := impl.TabOf(c.panes, false); !slices.Equal(got, c.all) {
			t.Errorf("%s: %v, not %v", c.name, got, c.all)
		}
		if got := impl.TabOf(c.panes, true); !slices.Equal(got, c.pieces) {
			t.Errorf("%s, in pieces: %v, not %v", c.name, got, c.pieces)
		}
	}
}

func TestP58PaneByPane(t *testing.T) {
	r := fixed()
	for n := range 4000 {
		panes := anyPanes(r, 14)
		if n%2 == 0 {
			panes = soundPanes(r, 30)
		}
		for _, piece := range []bool{false, true} {
			got := impl.TabOf(panes, piece)
			if !slices.Equal(got, tableOf(panes, piece)) {
				t.Fatalf("%v, %v: %v, not %v", panes, piece, got, tableOf(panes, piece))
			}
			if len(panes) == 0 {
				continue
			}
			last := panes[len(panes)-1]
			if want := turned(impl.TabOf(panes[:len(panes)-1], piece), last, piece); !slices.Equal(got, want) {
				t.Fatalf("%v, %v: %v, not %v", panes, piece, got, want)
			}
			for i := 1; i < len(got); i++ {
				if !isBehind(got[i], got[i-1]) {
					t.Fatalf("%v is in no order", got)
				}
			}
		}
	}
}

func TestP58TheSameEachTime(t *testing.T) {
	var panes []impl.PanPane
	for key := 3; key >= 0; key-- {
		for start := 60; start >= 0; start-- {
			panes = append(panes, timely(key, start, start+7, one(key)), timely(key, start, start+3, one(2)))
		}
	}
	want := tableOf(panes, false)
	for range 20 {
		if got := impl.TabOf(panes, false); !slices.Equal(got, want) {
			t.Fatalf("%v, not %v", got, want)
		}
	}
}

func TestP59LinesOfRows(t *testing.T) {
	a := agg(2, -3, -5, 4)
	ok := []impl.TabRow{row(3, 60, 120, a), row(0, 0, 1, a), row(0, 0, 1, one(0)), row(1, 2, 3, impl.AggAgg{})}
	for tell, numbers := range map[int][]int{1: {2, 2, 1, 0}, 2: {-3, -3, 0, 0}, 3: {-5, -5, 0, 0}, 4: {4, 4, 0, 0}, 0: {0, 0, 0, 0}, 5: {0, 0, 0, 0}, -1: {0, 0, 0, 0}, math.MaxInt: {0, 0, 0, 0}, math.MinInt: {0, 0, 0, 0}} {
		want := []string{
			fmt.Sprintf("key 3 window 60..120 has %d", numbers[0]), fmt.Sprintf("key 0 window 0..1 has %d", numbers[1]),
			fmt.Sprintf("key 0 window 0..1 has %d", numbers[2]), fmt.Sprintf("key 1 window 2..3 has %d", numbers[3]),
		}
		if got := impl.TabText(ok, tell); !slices.Equal(got, want) {
			t.Errorf("%d: %q, not %q", tell, got, want)
		}
	}
	if got := impl.TabText(nil, 1); len(got) != 0 {
		t.Error("of none", got)
	}
}

func TestP59NoLineOfWhatIsNotOk(t *testing.T) {
	good, a := row(1, 2, 9, one(3)), one(3)
	for _, x := range []impl.TabRow{
		row(-1, 2, 9, a), row(4, 2, 9, a), row(math.MinInt, 2, 9, a), row(math.MaxInt, 2, 9, a), row(1, 9, 9, a), row(1, 9, 2, a), row(1, -1, 9, a), row(1, 61, 70, a), row(1, 2, 121, a), row(1, 0, 0, a), {},
		row(1, 2, 9, agg(0, 1, 0, 0)), row(1, 2, 9, agg(1, 2, 3, 4)), row(1, 2, 9, agg(1001, 0, 0, 0)), row(1, 2, 9, agg(-1, 0, 0, 0)), row(1, 2, 9, one(10)), row(1, math.MaxInt, math.MinInt, a),
	} {
		for _, rows := range [][]impl.TabRow{{x, good, good}, {good, x, good}, {good, good, x}, {x, good, x, good, x}} {
			if got := impl.TabText(rows, 2); !slices.Equal(got, []string{"key 1 window 2..9 has 3", "key 1 window 2..9 has 3"}) {
				t.Errorf("%v: %q", rows, got)
			}
		}
		if got := impl.TabText([]impl.TabRow{x}, 2); len(got) != 0 {
			t.Errorf("%v: %q", x, got)
		}
	}
}

func TestP59AnyRows(t *testing.T) {
	r := fixed()
	for range 5000 {
		rows, tell := anyRows(r, 9), pick(r, edges)
		var want []string
		count := 0
		for _, x := range rows {
			if x.Key >= 0 && x.Key <= 3 && isWindow(x.Win) && isKnown(x.Agg) {
				want = append(want, fmt.Sprintf("key %d window %d..%d has %d", x.Key, x.Win.Start, x.Win.End, impl.AggTell(x.Agg, tell)))
			}
			count += x.Agg.N
		}
		if got := impl.TabText(rows, tell); !slices.Equal(got, want) {
			t.Fatalf("%v, %d: %q, not %q", rows, tell, got, want)
		}
		if got := impl.TabCount(rows); got != count {
			t.Fatalf("%v: %d, not %d", rows, got, count)
		}
		cut := r.Intn(len(rows) + 1)
		if impl.TabCount(rows[:cut])+impl.TabCount(rows[cut:]) != count {
			t.Fatalf("%v, parted at %d", rows, cut)
		}
	}
}

func TestP59CountsOfAnySize(t *testing.T) {
	for _, c := range []struct {
		ns   []int
		want int
	}{
		{nil, 0}, {[]int{0}, 0}, {[]int{5}, 5}, {[]int{5, 0, 7}, 12}, {[]int{-5, 3}, -2}, {[]int{1001, 1000}, 2001}, {[]int{math.MaxInt}, math.MaxInt}, {[]int{math.MinInt}, math.MinInt},
		{[]int{math.MaxInt, 1}, math.MinInt}, {[]int{math.MinInt, -1}, math.MaxInt}, {[]int{math.MaxInt, math.MinInt, 1}, 0},
	} {
		var rows []impl.TabRow
		for i, n := range c.ns {
			rows = append(rows, row(-i, i, -i, agg(n, 77, -77, 7)))
		}
		if got := impl.TabCount(rows); got != c.want {
			t.Errorf("%v: %d", c.ns, got)
		}
	}
}

func TestP60OneFieldOfOneRow(t *testing.T) {
	rows := []impl.TabRow{row(1, 2, 9, agg(2, -3, -5, 4)), row(0, 2, 9, agg(2, -3, -5, 4)), row(7, 9, 2, agg(-1, 0, 3, 1))}
	if !impl.TabSame(rows, slices.Clone(rows)) || !impl.TabSame(rows, rows) {
		t.Fatal("the same")
	}
	for i := range rows {
		for _, of := range []func(*impl.TabRow) *int{
			func(x *impl.TabRow) *int { return &x.Key }, func(x *impl.TabRow) *int { return &x.Win.Start }, func(x *impl.TabRow) *int { return &x.Win.End },
			func(x *impl.TabRow) *int { return &x.Agg.N }, func(x *impl.TabRow) *int { return &x.Agg.Sum }, func(x *impl.TabRow) *int { return &x.Agg.Least }, func(x *impl.TabRow) *int { return &x.Agg.Most },
		} {
			for _, v := range []int{1, -1, 1000, math.MinInt} {
				other := slices.Clone(rows)
				*of(&other[i]) += v
				if impl.TabSame(rows, other) || impl.TabSame(other, rows) {
					t.Fatalf("%v %v", rows, other)
				}
			}
		}
	}
}

func TestP60LengthAndOrder(t *testing.T) {
	a, b := row(1, 2, 9, one(3)), row(0, 2, 9, one(3))
	for _, c := range []struct {
		x, y []impl.TabRow
		same bool
	}{
		{nil, nil, true}, {nil, []impl.TabRow{}, true}, {[]impl.TabRow{}, nil, true}, {nil, []impl.TabRow{{}}, false}, {[]impl.TabRow{{}}, []impl.TabRow{{}}, true}, {[]impl.TabRow{{}}, []impl.TabRow{{}, {}}, false},
		{[]impl.TabRow{a}, []impl.TabRow{a}, true}, {[]impl.TabRow{a}, []impl.TabRow{a, a}, false}, {[]impl.TabRow{a, b}, []impl.TabRow{b, a}, false}, {[]impl.TabRow{a, b}, []impl.TabRow{a}, false}, {[]impl.TabRow{a, b}, []impl.TabRow{b}, false}, {[]impl.TabRow{a, b, a}, []impl.TabRow{a, b, b}, false},
	} {
		if impl.TabSame(c.x, c.y) != c.same || impl.TabSame(c.y, c.x) != c.same {
			t.Errorf("%v %v: %v %v", c.x, c.y, impl.TabSame(c.x, c.y), impl.TabSame(c.y, c.x))
		}
	}
	all := lists(2, fewRows()...)
	for i, x := range all {
		for k, y := range all {
			if impl.TabSame(x, y) != (i == k) {
				t.Fatalf("%v %v: %v", x, y, impl.TabSame(x, y))
			}
		}
	}
}

func TestTablesLeaveTheirArguments(t *testing.T) {
	r := fixed()
	for range 2000 {
		rows, panes, x := guard(anyRows(r, 9), row(2, 3, 4, one(5))), guard(anyPanes(r, 9), timely(1, 2, 3, one(4))), anyRow(r)
		var pairs []impl.LatPair
		for _, y := range anyItems(r, 9) {
			pairs = append(pairs, impl.LatPair{Rec: y, Win: x.Win})
		}
		lates := guard(pairs, impl.LatPair{Rec: rec(1, 2, 3), Win: win(1, 2)})
		if len(rows.given) > 0 && r.Intn(2) == 0 {
			x = pick(r, rows.given)
		}
		impl.TabFind(rows.given, x.Key, x.Win)
		impl.TabText(rows.given, 1)
		impl.TabCount(rows.given)
		impl.TabSame(rows.given, rows.given)
		impl.PanSound(panes.given)
		fill(impl.TabOut(rows.given, x.Key, x.Win), impl.TabRow{Key: 77})
		fill(impl.TabPut(rows.given, x), impl.TabRow{Key: 77})
		fill(impl.TabOf(panes.given, r.Intn(2) == 0), impl.TabRow{Key: 77})
		fill(impl.PanOf(panes.given, x.Key, x.Win), impl.PanPane{Key: 77})
		if len(panes.given) > 0 {
			fill(impl.PanOf(panes.given, panes.given[0].Key, panes.given[0].Win), impl.PanPane{Key: 77})
		}
		fill(impl.LatRecs(lates.given), impl.ItmItem{Key: 77})
		rows.check(t, "a function of rows")
		panes.check(t, "a function of panes")
		lates.check(t, "LatRecs")
	}
}

func TestTablesAnswerNewMemoryEachTime(t *testing.T) {
	rows := []impl.TabRow{row(0, 2, 5, one(1)), row(1, 2, 5, one(2)), row(1, 4, 5, one(3))}
	panes := []impl.PanPane{timely(0, 2, 5, one(1)), timely(1, 2, 5, one(2)), late(0, 2, 5, 1, one(3))}
	lates := []impl.LatPair{{Rec: rec(1, 2, 3), Win: win(1, 2)}, {Rec: rec(4, 2, 3), Win: win(1, 5)}}
	for name, call := range map[string]func() []impl.TabRow{
		"TabOut of none": func() []impl.TabRow { return impl.TabOut(rows, 3, win(2, 5)) },
		"TabOut":         func() []impl.TabRow { return impl.TabOut(rows, 1, win(2, 5)) },
		"TabPut":         func() []impl.TabRow { return impl.TabPut(rows, row(1, 3, 5, one(7))) },
		"TabPut at end":  func() []impl.TabRow { return impl.TabPut(rows, row(3, 3, 5, one(7))) },
		"TabOf":          func() []impl.TabRow { return impl.TabOf(panes, true) },
	} {
		first := call()
		was := slices.Clone(first)
		fill(call(), impl.TabRow{Key: 77})
		if !slices.Equal(first, was) || len(first) == 0 {
			t.Errorf("%s: %v, was %v", name, first, was)
		}
	}
	first, recs, lines := impl.PanOf(panes, 0, win(2, 5)), impl.LatRecs(lates), impl.TabText(rows, 1)
	fill(impl.PanOf(panes, 0, win(2, 5)), impl.PanPane{Key: 77})
	fill(impl.LatRecs(lates), impl.ItmItem{Key: 77})
	fill(impl.TabText(rows, 1), "77")
	if len(first) != 2 || first[0] != panes[0] || first[1] != panes[2] || len(recs) != 2 || recs[0] != lates[0].Rec || len(lines) != 3 || !strings.HasPrefix(lines[0], "key 0") {
		t.Error(first, recs, lines)
	}
}

func TestTablesAnswerAtEveryArgument(t *testing.T) {
	r := fixed()
	for range 5000 {
		rows, panes, n, w := anyRows(r, 5), anyPanes(r, 5), pick(r, edges), win(pick(r, edges), pick(r, edges))
		x := row(n, w.Start, w.End, agg(pick(r, edges), pick(r, edges), pick(r, edges), pick(r, edges)))
		p := impl.PanPane{Key: pick(r, edges), Win: w, No: pick(r, edges), Kind: pick(r, edges), Agg: x.Agg}
		l := impl.LatPair{Rec: anyItem(r), Win: w}
		quiet(t, []any{rows, panes, x, p, l}, func() {
			impl.PanOk(p)
			impl.LatOk(l)
			impl.PanText(p, n)
			impl.TabFind(rows, n, w)
			impl.TabOut(rows, n, w)
			impl.TabPut(rows, x)
			impl.TabOf(append(panes, p), n > 0)
			impl.TabText(append(rows, x), n)
			impl.PanOf(panes, n, w)
			impl.PanSound(append(panes, p))
			impl.LatRecs([]impl.LatPair{l, l})
			impl.TabCount(append(rows, x))
			impl.TabSame(rows, append(rows, x))
		})
	}
	quiet(t, "nothing", func() {
		impl.TabFind(nil, 0, impl.WinWin{})
		impl.TabOut(nil, 0, impl.WinWin{})
		impl.TabPut(nil, impl.TabRow{})
		impl.TabOf(nil, false)
		impl.TabText(nil, 0)
		impl.PanOf(nil, 0, impl.WinWin{})
		impl.PanSound(nil)
		impl.LatRecs(nil)
		impl.TabCount(nil)
		impl.TabSame(nil, nil)
	})
}
