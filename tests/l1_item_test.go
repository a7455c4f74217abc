package tests

import (
	"fmt"
	"math"
	"slices"
	"strings"
	"testing"

	"loop.example/freshet/impl"
)

// itemTexts is all items that are ok, by their texts, from the document's words.
func itemTexts() map[string]impl.ItmItem {
	all := map[string]impl.ItmItem{}
	for t := 0; t <= 60; t++ {
		for key := 0; key <= 3; key++ {
			for v := -9; v <= 9; v++ {
				all[fmt.Sprintf("rec %d %d %d", t, key, v)] = rec(t, key, v)
			}
		}
	}
	for t := 1; t <= 60; t++ {
		all[fmt.Sprintf("mark %d", t)] = mark(t)
	}
	all["mark 1000"] = mark(1000)
	for n := 1; n <= 900; n++ {
		all[fmt.Sprintf("wall %d", n)] = wall(n)
	}
	return all
}

func textsByItem(all map[string]impl.ItmItem) map[impl.ItmItem]string {
	by := map[impl.ItmItem]string{}
	for s, x := range all {
		by[x] = s
	}
	return by
}

func TestNumbersOfTheDocument(t *testing.T) {
	got := []int{impl.ItmRec, impl.ItmMark, impl.ItmWall, impl.ItmMaxT, impl.ItmEnd, impl.ItmMaxK, impl.ItmMaxV, impl.ItmMaxN, impl.LogMax, impl.WordsMax}
	if want := []int{1, 2, 3, 60, 1000, 3, 9, 900, 40, 100}; !slices.Equal(got, want) {
		t.Fatal(got, want)
	}
}

func TestP69EachItem(t *testing.T) {
	for s, x := range itemTexts() {
		if !impl.ItmOk(x) {
			t.Fatalf("%v is ok", x)
		}
		if got := impl.ItmText(x); got != s {
			t.Fatalf("text of %v: %q, not %q", x, got, s)
		}
		if got, ok := impl.ItmRead(s); got != x || !ok {
			t.Fatalf("read %q: %v %v, not %v", s, got, ok, x)
		}
	}
}

func TestP69LeastGreatestAndOneBeyond(t *testing.T) {
	for _, c := range []struct {
		x    impl.ItmItem
		text string
		ok   bool
	}{
		{rec(0, 0, -9), "rec 0 0 -9", true},
		{rec(60, 3, 9), "rec 60 3 9", true},
		{rec(0, 0, 0), "rec 0 0 0", true},
		{rec(-1, 0, 0), "rec -1 0 0", false},
		{rec(61, 0, 0), "rec 61 0 0", false},
		{rec(1000, 0, 0), "rec 1000 0 0", false},
		{rec(0, -1, 0), "rec 0 -1 0", false},
		{rec(0, 4, 0), "rec 0 4 0", false},
		{rec(0, 0, -10), "rec 0 0 -10", false},
		{rec(0, 0, 10), "rec 0 0 10", false},
		{mark(1), "mark 1", true},
		{mark(60), "mark 60", true},
		{mark(1000), "mark 1000", true},
		{mark(0), "mark 0", false},
		{mark(-1), "mark -1", false},
		{mark(61), "mark 61", false},
		{mark(999), "mark 999", false},
		{mark(1001), "mark 1001", false},
		{wall(1), "wall 1", true},
		{wall(900), "wall 900", true},
		{wall(0), "wall 0", false},
		{wall(-1), "wall -1", false},
		{wall(901), "wall 901", false},
	} {
		text, x := "", impl.ItmItem{}
		if c.ok {
			text, x = c.text, c.x
		}
		if impl.ItmOk(c.x) != c.ok || impl.ItmText(c.x) != text {
			t.Errorf("%v: %v %q", c.x, impl.ItmOk(c.x), impl.ItmText(c.x))
		}
		if got, ok := impl.ItmRead(c.text); got != x || ok != c.ok {
			t.Errorf("%q: %v %v", c.text, got, ok)
		}
	}
}

func TestP69WhatAKindDoesNotHave(t *testing.T) {
	for _, n := range []int{1, -1, 5, math.MinInt, math.MaxInt} {
		for _, x := range []impl.ItmItem{
			{Kind: impl.ItmRec, T: 5, Key: 1, V: 3, N: n},
			{Kind: impl.ItmMark, T: 5, Key: n},
			{Kind: impl.ItmMark, T: 5, V: n},
			{Kind: impl.ItmMark, T: 5, N: n},
			{Kind: impl.ItmMark, T: 1000, Key: n},
			{Kind: impl.ItmWall, N: 5, T: n},
			{Kind: impl.ItmWall, N: 5, Key: n},
			{Kind: impl.ItmWall, N: 5, V: n},
		} {
			if impl.ItmOk(x) || impl.ItmText(x) != "" {
				t.Errorf("%v: %v %q", x, impl.ItmOk(x), impl.ItmText(x))
			}
		}
	}
}

func TestP69NoSuchKind(t *testing.T) {
	for _, kind := range []int{0, 4, -1, math.MinInt, math.MaxInt} {
		for _, x := range []impl.ItmItem{{}, {T: 5}, {T: 5, Key: 1, V: 3}, {N: 5}} {
			x.Kind = kind
			if impl.ItmOk(x) || impl.ItmText(x) != "" {
				t.Errorf("%v: %v %q", x, impl.ItmOk(x), impl.ItmText(x))
			}
		}
	}
}

func TestP69AnyItem(t *testing.T) {
	by := textsByItem(itemTexts())
	few := []int{math.MinInt, -10, -9, -1, 0, 1, 3, 4, 9, 10, 60, 61, 900, 901, 1000, 1001, math.MaxInt}
	for _, kind := range []int{math.MinInt, -1, 0, 1, 2, 3, 4, math.MaxInt} {
		for _, at := range few {
			for _, key := range few {
				for _, v := range few {
					for _, n := range few {
						x := impl.ItmItem{Kind: kind, T: at, Key: key, V: v, N: n}
						text, ok := by[x]
						if impl.ItmOk(x) != ok || impl.ItmText(x) != text {
							t.Fatalf("%v: %v %q, not %v %q", x, impl.ItmOk(x), impl.ItmText(x), ok, text)
						}
					}
				}
			}
		}
	}
}

func TestP69NoItemsText(t *testing.T) {
	for _, s := range []string{
		"", " ", "  ", "-", "rec", "mark", "wall", "rec ", "mark ", "wall ", "rec   ", "5", "5 1 3",
		"rec 05 1 3", "rec 5 01 3", "rec 5 1 03", "rec 5 1 -03", "rec 5 1 -0", "rec -0 1 3", "rec 00 1 3", "mark 01", "mark 01000", "wall 007",
		"rec +5 1 3", "rec 5 +1 3", "rec 5 1 +3", "rec 5 1 --3", "rec 5 1 - 3", "rec 5 1 3-", "mark +5", "mark -5", "wall +7", "wall -7",
		"rec 5 1", "rec 5", "rec 5 1 3 0", "rec 5 1 3 4 5", "mark 5 0", "mark 5 1 3", "wall 7 0", "wall 7 1 3",
		" rec 5 1 3", "rec 5 1 3 ", "rec  5 1 3", "rec 5  1 3", "rec 5 1  3", " mark 5", "mark 5 ", "mark  5", "mark\t5", "mark\n5", "mark 5\n", "mark 5\r", "mark\u00a05",
		"REC 5 1 3", "Rec 5 1 3", "record 5 1 3", "rec5 1 3", "re 5 1 3", "marks 5", "Mark 5", "walls 7", "Wall 7", "none 5",
		"mark 5.0", "mark 5e0", "mark 0x5", "mark 0b1", "mark 0o5", "mark 1_0", "mark 1,000", "mark five", "mark ٥", "mark ５", "mark \x00", "mark 5\x00", "\x00mark 5",
		"mark 18446744073709551617", "mark 4294967297", "wall 18446744073709551623", "rec 5 1 18446744073709551619", "mark 9223372036854775808", "mark -9223372036854775809",
		"\xff\xfe\xfd", "\x80", "rec 5 1 3\xff",
		"mark " + strings.Repeat("0", 90) + "5", "mark " + strings.Repeat("0", 94) + "5", "mark " + strings.Repeat("0", 95) + "5", "mark 5" + strings.Repeat(" ", 94), "mark 5" + strings.Repeat(" ", 95), "mark 5" + strings.Repeat("\x00", 95),
		strings.Repeat("mark 5 ", 20), strings.Repeat(" ", 100), strings.Repeat(" ", 101), strings.Repeat("9", 1<<16),
	} {
		if x, ok := impl.ItmRead(s); ok || x != (impl.ItmItem{}) {
			t.Errorf("%q is no item's text: %v %v", s, x, ok)
		}
	}
}

func TestP69TextsNearAndFar(t *testing.T) {
	all := itemTexts()
	var texts []string
	for _, s := range []string{"rec 5 1 -3", "rec 60 3 9", "rec 0 0 0", "mark 7", "mark 60", "mark 1000", "wall 7", "wall 900"} {
		texts = append(texts, near(s)...)
	}
	r := fixed()
	for range 200000 {
		texts = append(texts, anyText(r))
	}
	for _, s := range texts {
		want, good := all[s]
		if x, ok := impl.ItmRead(s); x != want || ok != good {
			t.Fatalf("%q: %v %v, not %v %v", s, x, ok, want, good)
		}
	}
}

// isLog says the same as LogOk, from the document's words.
func isLog(by map[impl.ItmItem]string, log []impl.ItmItem) bool {
	for i, x := range log {
		if by[x] == "" || x.Kind == impl.ItmWall {
			return false
		}
		for _, y := range log[:i] {
			if x.Kind == impl.ItmMark && y.Kind == impl.ItmMark && x.T <= y.T {
				return false
			}
		}
	}
	return len(log) >= 1 && len(log) <= 40 && log[len(log)-1] == mark(1000)
}

func times(n int, x impl.ItmItem) []impl.ItmItem {
	return slices.Repeat([]impl.ItmItem{x}, n)
}

func TestP70WhatIsALog(t *testing.T) {
	end := mark(1000)
	for name, log := range map[string][]impl.ItmItem{
		"the end alone":            {end},
		"records and marks":        {rec(9, 0, 0), mark(8), rec(5, 0, -4), end},
		"a mark below a record":    {rec(60, 3, 9), mark(1), end},
		"marks that rise by one":   {mark(1), mark(2), mark(3), end},
		"the last mark of times":   {mark(60), rec(0, 0, 0), end},
		"records that are all one": {rec(1, 1, 1), rec(1, 1, 1), end},
		"as many as may be":        append(times(39, rec(1, 1, 1)), end),
	} {
		if !impl.LogOk(log) {
			t.Errorf("%s: %v is a log", name, log)
		}
	}
}

func TestP70WhatIsNoLog(t *testing.T) {
	end := mark(1000)
	for name, log := range map[string][]impl.ItmItem{
		"nil":                        nil,
		"no items":                   {},
		"one too many":               append(times(40, rec(1, 1, 1)), end),
		"far too many":               append(times(4000, rec(1, 1, 1)), end),
		"forty without the end":      times(40, rec(1, 1, 1)),
		"a record":                   {rec(1, 1, 1)},
		"a mark that is not the end": {rec(1, 1, 1), mark(60)},
		"a record behind the end":    {end, rec(1, 1, 1)},
		"a mark behind the end":      {end, mark(60)},
		"the end twice":              {end, end},
		"the end ahead of the last":  {rec(1, 1, 1), end, rec(1, 1, 1), end},
		"a wall":                     {wall(1), end},
		"a wall last":                {mark(5), end, wall(1)},
		"a wall instead of the end":  {mark(5), wall(900)},
		"a mark twice":               {mark(5), mark(5), end},
		"a mark twice, not at once":  {mark(5), rec(5, 0, 0), mark(5), end},
		"a mark below the last":      {mark(5), mark(4), end},
		"a mark below the first":     {mark(5), mark(9), mark(6), end},
		"a record of no time":        {rec(61, 0, 0), end},
		"a record of no key":         {rec(0, 4, 0), end},
		"a record of no value":       {rec(0, 0, 10), end},
		"a record with a wall":       {{Kind: impl.ItmRec, N: 1}, end},
		"a mark of no time":          {mark(0), end},
		"a mark that is beyond":      {mark(61), end},
		"a mark close to the end":    {mark(999), end},
		"a mark behind the end's":    {mark(1001)},
		"an end with a key":          {{Kind: impl.ItmMark, T: 1000, Key: 1}},
		"an end with a value":        {{Kind: impl.ItmMark, T: 1000, V: 1}},
		"an end with a wall":         {{Kind: impl.ItmMark, T: 1000, N: 1}},
		"an end of no kind":          {{T: 1000}},
		"a record of the end's time": {{Kind: impl.ItmRec, T: 1000}},
		"nothing":                    {{}, end},
		"nothing but nothing":        {{}},
		"an item of no kind":         {{Kind: 4}, end},
	} {
		if impl.LogOk(log) {
			t.Errorf("%s: %v is no log", name, log)
		}
	}
}

func TestP70AnyItems(t *testing.T) {
	by := textsByItem(itemTexts())
	r := fixed()
	logs := 0
	for range 20000 {
		log := aLog(r, 43)
		for range r.Intn(3) {
			at := r.Intn(len(log))
			switch r.Intn(4) {
			case 0:
				log[at] = anyItem(r)
			case 1:
				log = slices.Insert(log, at, anyItem(r))
			case 2:
				log = slices.Delete(log, at, at+1)
			case 3:
				to := r.Intn(len(log))
				log[at], log[to] = log[to], log[at]
			}
			if len(log) == 0 {
				break
			}
		}
		want := isLog(by, log)
		if impl.LogOk(log) != want {
			t.Fatalf("%v: %v", log, !want)
		}
		if want {
			logs++
		}
	}
	if logs < 2000 || logs > 18000 {
		t.Fatalf("%d of 20000 are logs: the choice is too narrow", logs)
	}
}

func TestP70NoBeginningOfALogIsOne(t *testing.T) {
	r := fixed()
	for range 300 {
		log := aLog(r, impl.LogMax)
		for n := range log {
			if impl.LogOk(log[:n]) {
				t.Fatal(log[:n])
			}
		}
		if !impl.LogOk(log) {
			t.Fatal(log)
		}
	}
}

func TestP71ValuesAtAboveAndBelow(t *testing.T) {
	odd := impl.ItmItem{Kind: impl.ItmRec, T: -5, Key: 99, V: 4, N: 7}
	items := []impl.ItmItem{rec(9, 0, 3), mark(8), rec(5, 1, -4), wall(2), rec(5, 1, 4), odd, rec(5, 1, 4), {V: 9}, {Kind: impl.ItmMark, T: 9, V: 9}, {Kind: impl.ItmWall, N: 3, V: 9}, {Kind: 4, V: 9}, rec(0, 3, math.MaxInt), rec(0, 2, math.MinInt), mark(1000)}
	for _, c := range []struct {
		least int
		want  []impl.ItmItem
	}{
		{math.MinInt, []impl.ItmItem{items[0], items[2], items[4], odd, items[6], items[11], items[12]}},
		{math.MinInt + 1, []impl.ItmItem{items[0], items[2], items[4], odd, items[6], items[11]}},
		{-4, []impl.ItmItem{items[0], items[2], items[4], odd, items[6], items[11]}},
		{-3, []impl.ItmItem{items[0], items[4], odd, items[6], items[11]}},
		{3, []impl.ItmItem{items[0], items[4], odd, items[6], items[11]}},
		{4, []impl.ItmItem{items[4], odd, items[6], items[11]}},
		{5, []impl.ItmItem{items[11]}},
		{math.MaxInt, []impl.ItmItem{items[11]}},
	} {
		if got := impl.LogRecs(items, c.least); !slices.Equal(got, c.want) {
			t.Errorf("least %d: %v, not %v", c.least, got, c.want)
		}
	}
}

func TestP71NoRecords(t *testing.T) {
	for _, items := range [][]impl.ItmItem{nil, {}, {mark(5), mark(1000)}, {wall(5)}, {{}}, {rec(1, 1, 8)}} {
		if got := impl.LogRecs(items, 9); len(got) != 0 {
			t.Errorf("%v: %v", items, got)
		}
	}
}

func TestP71AnyItems(t *testing.T) {
	r := fixed()
	for range 5000 {
		items := anyItems(r, 60)
		least := pick(r, []int{-10, -9, -1, 0, 1, 9, 10, pick(r, edges)})
		want := slices.DeleteFunc(slices.Clone(items), func(x impl.ItmItem) bool { return x.Kind != 1 || x.V < least })
		if got := impl.LogRecs(items, least); !slices.Equal(got, want) {
			t.Fatalf("%v from %d on: %v, not %v", items, least, got, want)
		}
	}
}

func TestP71MoreThanALogHas(t *testing.T) {
	items := slices.Repeat([]impl.ItmItem{rec(1, 2, 3), mark(1)}, 1000)
	if got := impl.LogRecs(items, 3); !slices.Equal(got, times(1000, rec(1, 2, 3))) {
		t.Fatal(len(got))
	}
}

func TestP72AtTheEdge(t *testing.T) {
	for _, c := range []struct {
		name  string
		items []impl.ItmItem
		least int // the least late with which they are punctual; 1001: there is none
	}{
		{"no items", nil, 0},
		{"a record", []impl.ItmItem{rec(0, 0, 0)}, 0},
		{"at the mark", []impl.ItmItem{mark(8), rec(8, 0, 0)}, 0},
		{"above the mark", []impl.ItmItem{mark(8), rec(9, 0, 0)}, 0},
		{"one below", []impl.ItmItem{mark(8), rec(7, 0, 0)}, 1},
		{"three below", []impl.ItmItem{rec(9, 0, 0), mark(8), rec(5, 0, 0), mark(1000)}, 3},
		{"marks behind it do not count", []impl.ItmItem{rec(5, 0, 0), mark(8), mark(1000)}, 0},
		{"the latest of some", []impl.ItmItem{mark(8), rec(5, 0, 0), mark(20), rec(16, 0, 0), rec(20, 0, 0)}, 4},
		{"the first of some", []impl.ItmItem{mark(8), rec(1, 0, 0), mark(20), rec(16, 0, 0)}, 7},
		{"the greatest mark, not the last", []impl.ItmItem{mark(20), mark(8), rec(18, 0, 0)}, 2},
		{"behind the end", []impl.ItmItem{mark(1000), rec(60, 0, 0)}, 940},
		{"as late as may be", []impl.ItmItem{mark(1000), rec(0, 0, 0)}, 1000},
		{"later than may be", []impl.ItmItem{mark(1001), rec(0, 0, 0)}, 1001},
		{"a time below 0", []impl.ItmItem{rec(-3, 0, 0)}, 3},
		{"a mark below 0 is none", []impl.ItmItem{mark(-9), rec(-3, 0, 0)}, 3},
		{"the mark 0", []impl.ItmItem{mark(0), rec(0, 0, 0)}, 0},
		{"walls are no marks", []impl.ItmItem{{Kind: impl.ItmWall, T: 50, N: 50}, rec(0, 0, 0)}, 0},
		{"records are no marks", []impl.ItmItem{rec(50, 0, 0), rec(0, 0, 0)}, 0},
		{"what is of no kind is no mark", []impl.ItmItem{{T: 50}, {Kind: 4, T: 50}, rec(0, 0, 0)}, 0},
		{"only records are late", []impl.ItmItem{mark(50), wall(1), {}, {Kind: 4}, mark(1)}, 0},
		{"marks and records that are not ok", []impl.ItmItem{{Kind: impl.ItmMark, T: 70, Key: 5, N: 1}, {Kind: impl.ItmRec, T: 65, Key: 9, V: 99, N: 1}}, 5},
		{"the least time", []impl.ItmItem{rec(math.MinInt, 0, 0)}, 1001},
		{"the least mark", []impl.ItmItem{mark(math.MinInt), rec(0, 0, 0)}, 0},
		{"the greatest mark", []impl.ItmItem{mark(math.MaxInt), rec(0, 0, 0)}, 1001},
		{"the greatest mark and time", []impl.ItmItem{mark(math.MaxInt), rec(math.MaxInt, 0, 0), rec(math.MaxInt-1000, 0, 0)}, 1000},
		{"the greatest time", []impl.ItmItem{mark(5), rec(math.MaxInt, 0, 0)}, 0},
	} {
		for _, late := range append([]int{c.least - 1, c.least, c.least + 1}, edges...) {
			want := late >= c.least && late >= 0 && late <= 1000
			if impl.LogPunctual(c.items, late) != want {
				t.Errorf("%s: %v, late %d: %v", c.name, c.items, late, !want)
			}
		}
	}
}

// isPunctual says the same as LogPunctual, from the document's words.
func isPunctual(items []impl.ItmItem, late int) bool {
	for i, x := range items {
		greatest := 0
		for _, y := range items[:i] {
			if y.Kind == 2 && y.T > greatest {
				greatest = y.T
			}
		}
		if x.Kind == 1 && x.T < greatest-late {
			return false
		}
	}
	return true
}

func TestP72OneMoreAndEachBeginning(t *testing.T) {
	r := fixed()
	for n := range 1500 {
		items := anyItems(r, 12)
		if n%2 == 0 {
			items = aLog(r, 12)
		}
		for late := 0; late <= 1000; late += 1 + r.Intn(3)*r.Intn(30) {
			is := impl.LogPunctual(items, late)
			if is != isPunctual(items, late) {
				t.Fatalf("%v, late %d: %v", items, late, is)
			}
			if !is {
				continue
			}
			if late < 1000 && !impl.LogPunctual(items, late+1) {
				t.Fatalf("%v is not so with %d, but with one less", items, late+1)
			}
			for i := range items {
				if !impl.LogPunctual(items[:i], late) {
					t.Fatalf("%v is not so with %d, but with more items", items[:i], late)
				}
			}
		}
	}
}

func TestItemsAnswerAtEveryArgument(t *testing.T) {
	r := fixed()
	for range 20000 {
		x := impl.ItmItem{Kind: pick(r, []int{1, 2, 3, pick(r, edges)}), T: pick(r, edges), Key: pick(r, edges), V: pick(r, edges), N: pick(r, edges)}
		quiet(t, x, func() {
			impl.ItmOk(x)
			impl.ItmText(x)
			impl.LogOk([]impl.ItmItem{x})
			for _, n := range []int{math.MinInt, -1, 0, 1000, math.MaxInt} {
				impl.LogRecs([]impl.ItmItem{x, x}, n)
				impl.LogPunctual([]impl.ItmItem{x, x}, n)
			}
		})
		s := anyText(r)
		quiet(t, s, func() { impl.ItmRead(s) })
	}
}

func TestLogsNothingIsWrittenIntoAnArgument(t *testing.T) {
	r := fixed()
	for n := range 2000 {
		items := anyItems(r, 30)
		switch n % 3 {
		case 1:
			items = aLog(r, impl.LogMax)
		case 2:
			items = times(n%50, rec(1, 2, 3))
		}
		g := guard(items, impl.ItmItem{Kind: 77})
		impl.LogOk(g.given)
		g.check(t, "LogOk")
		impl.LogPunctual(g.given, pick(r, edges))
		g.check(t, "LogPunctual")
		impl.LogRecs(g.given, pick(r, edges))
		g.check(t, "LogRecs")
	}
}

func TestLogRecsIsNewMemory(t *testing.T) {
	r := fixed()
	for n := range 2000 {
		items := anyItems(r, 30)
		if n%2 == 0 {
			items = times(1+n%50, rec(1, 2, 3)) // all are told: the argument itself would look the same
		}
		g := guard(items, impl.ItmItem{Kind: 77})
		got, again := impl.LogRecs(g.given, math.MinInt), impl.LogRecs(g.given, math.MinInt)
		was := slices.Clone(again)
		fill(got, impl.ItmItem{Kind: 99})
		g.check(t, "the owner of LogRecs' answer")
		if !slices.Equal(again, was) {
			t.Fatal("two answers share memory")
		}
		if !slices.Equal(impl.LogRecs(g.given, math.MinInt), was) {
			t.Fatal("something is kept between two calls")
		}
		fill(g.given, impl.ItmItem{Kind: 98})
		if !slices.Equal(again, was) {
			t.Fatal("an answer turns with its argument")
		}
	}
}
