package tests

import (
	"fmt"
	"math"
	"strings"
	"testing"

	"loop.example/freshet/impl"
)

// windowTexts is all windows that are ok, by their texts, from the document's words.
func windowTexts() map[string]impl.WinWin {
	all := map[string]impl.WinWin{}
	for start := 0; start <= 60; start++ {
		for end := start + 1; end <= 120; end++ {
			all[fmt.Sprintf("%d..%d", start, end)] = impl.WinWin{Start: start, End: end}
		}
	}
	return all
}

// someWindows is windows that are ok, short and long ones, those at the limits among them.
func someWindows() []impl.WinWin {
	var some []impl.WinWin
	for _, start := range []int{0, 1, 2, 3, 4, 5, 6, 7, 8, 20, 58, 59, 60} {
		for _, end := range []int{1, 2, 3, 4, 5, 6, 7, 8, 9, 20, 21, 58, 59, 60, 61, 62, 119, 120} {
			if start < end {
				some = append(some, impl.WinWin{Start: start, End: end})
			}
		}
	}
	return some
}

// anyWindows is windows of numbers at all edges, few of which are ok.
func anyWindows() []impl.WinWin {
	var all []impl.WinWin
	for _, start := range edges {
		for _, end := range edges {
			all = append(all, impl.WinWin{Start: start, End: end})
		}
	}
	return all
}

func has(w impl.WinWin, t int) bool {
	return t >= w.Start && t < w.End
}

// common says whether two windows that are ok have some time in common, time by time.
func common(a, b impl.WinWin) bool {
	for t := 0; t < 120; t++ {
		if has(a, t) && has(b, t) {
			return true
		}
	}
	return false
}

// holds says whether a window has all times of another one.
func holds(all, w impl.WinWin) bool {
	for t := w.Start; t < w.End; t++ {
		if !has(all, t) {
			return false
		}
	}
	return true
}

func TestP73WhichWindowsTouch(t *testing.T) {
	for _, c := range []struct {
		name  string
		a, b  impl.WinWin
		touch bool
	}{
		{"one ends where the other begins", impl.WinWin{Start: 0, End: 5}, impl.WinWin{Start: 5, End: 9}, false},
		{"one time in common", impl.WinWin{Start: 0, End: 6}, impl.WinWin{Start: 5, End: 9}, true},
		{"apart", impl.WinWin{Start: 0, End: 4}, impl.WinWin{Start: 5, End: 9}, false},
		{"within", impl.WinWin{Start: 0, End: 9}, impl.WinWin{Start: 3, End: 5}, true},
		{"within, from the beginning", impl.WinWin{Start: 0, End: 9}, impl.WinWin{Start: 0, End: 1}, true},
		{"within, up to the end", impl.WinWin{Start: 0, End: 9}, impl.WinWin{Start: 8, End: 9}, true},
		{"the same", impl.WinWin{Start: 3, End: 5}, impl.WinWin{Start: 3, End: 5}, true},
		{"the same, of one time", impl.WinWin{Start: 60, End: 61}, impl.WinWin{Start: 60, End: 61}, true},
		{"the first and the last", impl.WinWin{Start: 0, End: 1}, impl.WinWin{Start: 60, End: 120}, false},
		{"without times, the same", impl.WinWin{Start: 5, End: 5}, impl.WinWin{Start: 5, End: 5}, false},
		{"without times, in another one", impl.WinWin{Start: 5, End: 5}, impl.WinWin{Start: 0, End: 9}, true},
		{"nothing", impl.WinWin{}, impl.WinWin{}, false},
		{"the wrong way round, in another one", impl.WinWin{Start: 8, End: 2}, impl.WinWin{Start: 0, End: 9}, true},
		{"the wrong way round, by itself", impl.WinWin{Start: 8, End: 2}, impl.WinWin{Start: 8, End: 2}, false},
		{"below 0", impl.WinWin{Start: -9, End: -3}, impl.WinWin{Start: -4, End: 0}, true},
		{"all times", impl.WinWin{Start: math.MinInt, End: math.MaxInt}, impl.WinWin{Start: 5, End: 6}, true},
		{"all times the wrong way round", impl.WinWin{Start: math.MaxInt, End: math.MinInt}, impl.WinWin{Start: 5, End: 6}, false},
		{"as early and as late as may be", impl.WinWin{Start: math.MinInt, End: math.MinInt + 1}, impl.WinWin{Start: math.MaxInt - 1, End: math.MaxInt}, false},
	} {
		if impl.WinTouch(c.a, c.b) != c.touch || impl.WinTouch(c.b, c.a) != c.touch {
			t.Errorf("%s: %v %v: %v %v", c.name, c.a, c.b, impl.WinTouch(c.a, c.b), impl.WinTouch(c.b, c.a))
		}
	}
}

func TestP73TheLaterStartIsInBoth(t *testing.T) {
	for _, a := range someWindows() {
		for _, b := range someWindows() {
			later := max(a.Start, b.Start)
			want := has(a, later) && has(b, later)
			if got := impl.WinTouch(a, b); got != want || got != common(a, b) {
				t.Fatalf("%v %v: %v", a, b, got)
			}
		}
	}
}

func TestP73AnyWindows(t *testing.T) {
	all := anyWindows()
	for i, a := range all {
		for _, b := range all[i%7:] {
			want := a.Start < b.End && b.Start < a.End
			if impl.WinTouch(a, b) != want || impl.WinTouch(b, a) != want {
				t.Fatalf("%v %v: %v %v", a, b, impl.WinTouch(a, b), impl.WinTouch(b, a))
			}
		}
	}
}

func TestP74Spans(t *testing.T) {
	for _, c := range []struct{ a, b, span impl.WinWin }{
		{impl.WinWin{Start: 0, End: 5}, impl.WinWin{Start: 5, End: 9}, impl.WinWin{Start: 0, End: 9}},
		{impl.WinWin{Start: 1, End: 6}, impl.WinWin{Start: 5, End: 14}, impl.WinWin{Start: 1, End: 14}},
		{impl.WinWin{Start: 0, End: 9}, impl.WinWin{Start: 3, End: 5}, impl.WinWin{Start: 0, End: 9}},
		{impl.WinWin{Start: 3, End: 5}, impl.WinWin{Start: 3, End: 5}, impl.WinWin{Start: 3, End: 5}},
		{impl.WinWin{Start: 0, End: 1}, impl.WinWin{Start: 60, End: 120}, impl.WinWin{Start: 0, End: 120}},
		{impl.WinWin{Start: 8, End: 2}, impl.WinWin{Start: 9, End: 1}, impl.WinWin{Start: 8, End: 2}},
		{impl.WinWin{Start: -5, End: -9}, impl.WinWin{Start: -7, End: -3}, impl.WinWin{Start: -7, End: -3}},
		{impl.WinWin{Start: math.MinInt, End: 0}, impl.WinWin{Start: 0, End: math.MaxInt}, impl.WinWin{Start: math.MinInt, End: math.MaxInt}},
	} {
		if impl.WinSpan(c.a, c.b) != c.span || impl.WinSpan(c.b, c.a) != c.span {
			t.Errorf("%v %v: %v %v, not %v", c.a, c.b, impl.WinSpan(c.a, c.b), impl.WinSpan(c.b, c.a), c.span)
		}
	}
}

func TestP74TheLeastWindowThatHasBoth(t *testing.T) {
	for _, a := range someWindows() {
		for _, b := range someWindows() {
			s := impl.WinSpan(a, b)
			if !impl.WinOk(s) || !holds(s, a) || !holds(s, b) {
				t.Fatalf("%v %v: %v has not both", a, b, s)
			}
			shorter := []impl.WinWin{{Start: s.Start + 1, End: s.End}, {Start: s.Start, End: s.End - 1}}
			for _, w := range shorter {
				if holds(w, a) && holds(w, b) {
					t.Fatalf("%v %v: %v is not the least", a, b, s)
				}
			}
		}
	}
}

func TestP74AnyWindows(t *testing.T) {
	all := anyWindows()
	for i, a := range all {
		if impl.WinSpan(a, a) != a {
			t.Fatalf("%v twice: %v", a, impl.WinSpan(a, a))
		}
		for _, b := range all[i%7:] {
			want := a
			if b.Start < want.Start {
				want.Start = b.Start
			}
			if b.End > want.End {
				want.End = b.End
			}
			if impl.WinSpan(a, b) != want || impl.WinSpan(b, a) != want {
				t.Fatalf("%v %v: %v %v, not %v", a, b, impl.WinSpan(a, b), impl.WinSpan(b, a), want)
			}
		}
	}
}

func TestP75EachWindow(t *testing.T) {
	all := windowTexts()
	for s, w := range all {
		if got := impl.WinText(w); got != s {
			t.Fatalf("text of %v: %q, not %q", w, got, s)
		}
		if got, ok := impl.WinRead(s); got != w || !ok {
			t.Fatalf("read %q: %v %v, not %v", s, got, ok, w)
		}
	}
	for start := -5; start <= 130; start++ {
		for end := -5; end <= 130; end++ {
			checkWindow(t, all, impl.WinWin{Start: start, End: end})
		}
	}
	for _, w := range anyWindows() {
		checkWindow(t, all, w)
	}
}

// checkWindow holds a window, and the text that it would have, against all that are ok.
func checkWindow(t *testing.T, all map[string]impl.WinWin, w impl.WinWin) {
	t.Helper()
	would := fmt.Sprintf("%d..%d", w.Start, w.End)
	want, ok := all[would]
	text := ""
	if ok {
		text = would
	}
	if impl.WinOk(w) != ok || impl.WinText(w) != text {
		t.Fatalf("%v: %v %q", w, impl.WinOk(w), impl.WinText(w))
	}
	if got, good := impl.WinRead(would); got != want || good != ok {
		t.Fatalf("%q: %v %v", would, got, good)
	}
}

func TestP75LeastGreatestAndOneBeyond(t *testing.T) {
	for _, c := range []struct {
		w  impl.WinWin
		ok bool
	}{
		{impl.WinWin{Start: 0, End: 1}, true},
		{impl.WinWin{Start: 0, End: 120}, true},
		{impl.WinWin{Start: 60, End: 61}, true},
		{impl.WinWin{Start: 60, End: 120}, true},
		{impl.WinWin{}, false},
		{impl.WinWin{Start: -1, End: 1}, false},
		{impl.WinWin{Start: 0, End: 121}, false},
		{impl.WinWin{Start: 60, End: 60}, false},
		{impl.WinWin{Start: 61, End: 62}, false},
		{impl.WinWin{Start: 60, End: 121}, false},
		{impl.WinWin{Start: 5, End: 4}, false},
		{impl.WinWin{Start: math.MaxInt, End: math.MinInt}, false},
		{impl.WinWin{Start: math.MinInt, End: math.MaxInt}, false},
		{impl.WinWin{Start: math.MaxInt, End: math.MaxInt}, false},
	} {
		if impl.WinOk(c.w) != c.ok || (impl.WinText(c.w) != "") != c.ok {
			t.Errorf("%v: %v %q", c.w, impl.WinOk(c.w), impl.WinText(c.w))
		}
	}
}

func TestP75NoWindowsText(t *testing.T) {
	for _, s := range []string{
		"", ".", "..", "...", "....", "3", "3..", "..12", "3.12", "3...12", "3....12", "3..12..", "..3..12", "3..12..13", "3..12.", ".3..12",
		"03..12", "3..012", "00..12", "-0..12", "+3..12", "3..+12", "-3..12", "3..-12", "3--12", "3-12", "3:12", "3 12", "3,,12",
		" 3..12", "3..12 ", "3 ..12", "3.. 12", "3 .. 12", "3..12\n", "\t3..12", "3..12\x00", "\x003..12", "3\x00..12",
		"3..3", "12..3", "61..62", "0..121", "60..121", "0..0", "3..x", "x..3", "3..1e1", "3..0xc", "3..1_2", "3..12.0", "３..12", "3..١٢", "3‥12", "3…12",
		"18446744073709551619..12", "3..18446744073709551628", "4294967299..12", "3..4294967308", "-9223372036854775809..12", "3..9223372036854775808",
		"\xff", "3..\xff", "\xff..12", "key 3..12", "3..12 3..12", strings.Repeat("0", 200) + "3..12", "3.." + strings.Repeat("0", 200) + "12", strings.Repeat("9", 1<<16) + "..", strings.Repeat(".", 1<<16),
	} {
		if w, ok := impl.WinRead(s); ok || w != (impl.WinWin{}) {
			t.Errorf("%q is no window's text: %v %v", s, w, ok)
		}
	}
}

func TestP75TextsNearAndFar(t *testing.T) {
	all := windowTexts()
	var texts []string
	for _, s := range []string{"3..12", "0..1", "0..120", "60..61", "60..120"} {
		texts = append(texts, near(s)...)
	}
	r := fixed()
	for range 200000 {
		texts = append(texts, anyText(r))
	}
	for _, s := range texts {
		want, good := all[s]
		if w, ok := impl.WinRead(s); w != want || ok != good {
			t.Fatalf("%q: %v %v, not %v %v", s, w, ok, want, good)
		}
	}
}

func TestWindowsAnswerAtEveryArgument(t *testing.T) {
	all := anyWindows()
	r := fixed()
	for _, a := range all {
		b := pick(r, all)
		quiet(t, []impl.WinWin{a, b}, func() {
			impl.WinOk(a)
			impl.WinText(a)
			impl.WinTouch(a, b)
			impl.WinSpan(a, b)
		})
	}
	for range 20000 {
		s := anyText(r)
		quiet(t, s, func() { impl.WinRead(s) })
	}
}
