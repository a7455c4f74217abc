package tests

import (
	"math"
	"math/big"
	"math/rand"
	"slices"
	"testing"

	"loop.example/freshet/impl"
)

func TestNumbersOfValues(t *testing.T) {
	got := []int{impl.AggCount, impl.AggSum, impl.AggLeast, impl.AggMost, impl.AggMax}
	if want := []int{1, 2, 3, 4, 1000}; !slices.Equal(got, want) {
		t.Fatal(got, want)
	}
}

func agg(n, sum, least, most int) impl.AggAgg {
	return impl.AggAgg{N: n, Sum: sum, Least: least, Most: most}
}

// knownOf is what is known of values, from the document's words.
func knownOf(values []int) impl.AggAgg {
	if len(values) == 0 {
		return impl.AggAgg{}
	}
	sum := 0
	for _, v := range values {
		sum += v
	}
	return agg(len(values), sum, slices.Min(values), slices.Max(values))
}

func addAll(a impl.AggAgg, values []int) impl.AggAgg {
	for _, v := range values {
		a = impl.AggAdd(a, v)
	}
	return a
}

func someValues(r *rand.Rand, n int) []int {
	values := make([]int, n)
	for i := range values {
		values[i] = r.Intn(19) - 9
	}
	return values
}

// isKnown says the same as AggOk, from the document's words, in numbers that do not wrap round.
func isKnown(a impl.AggAgg) bool {
	if a.N == 0 {
		return a.Sum == 0 && a.Least == 0 && a.Most == 0
	}
	if a.N < 1 || a.N > 1000 || a.Least < -9 || a.Least > 9 || a.Most < a.Least || a.Most > 9 {
		return false
	}
	n, sum := big.NewInt(int64(a.N)), big.NewInt(int64(a.Sum))
	least := new(big.Int).Mul(n, big.NewInt(int64(a.Least)))
	most := new(big.Int).Mul(n, big.NewInt(int64(a.Most)))
	return sum.Cmp(least) >= 0 && sum.Cmp(most) <= 0
}

// someKnown is what may be known of values: of none, of one and many, at the limits, and of sums that no values have but that are ok.
func someKnown() []impl.AggAgg {
	some := []impl.AggAgg{
		{}, agg(1, 0, 0, 0), agg(1, 9, 9, 9), agg(1, -9, -9, -9), agg(1, 0, -9, 9), agg(2, 0, -9, 9), agg(2, -2, -5, 3),
		agg(1000, 9000, 9, 9), agg(1000, -9000, -9, -9), agg(1000, 9000, -9, 9), agg(1000, -9000, -9, 9), agg(500, 0, 0, 0), agg(500, 7, -1, 8), agg(999, 0, -9, 9),
	}
	for _, values := range lists(3, -9, -1, 0, 4, 9) {
		some = append(some, knownOf(values))
	}
	return some
}

// anyKnown is someKnown, and much that is not ok.
func anyKnown() []impl.AggAgg {
	some := append(someKnown(),
		agg(0, 1, 0, 0), agg(0, 0, 1, 0), agg(0, 0, 0, 1), agg(0, -7, 3, 2), agg(0, math.MaxInt, math.MinInt, math.MaxInt), agg(-1, 5, 2, 3), agg(-2, 0, 0, 0),
		agg(3, 5, 9, -9), agg(1001, 0, 0, 0), agg(2, 100, 1, 2), agg(1, math.MaxInt, math.MaxInt, math.MaxInt), agg(1, math.MinInt, math.MinInt, math.MinInt),
		agg(math.MaxInt, math.MaxInt, math.MinInt, math.MaxInt), agg(math.MinInt, math.MinInt, math.MaxInt, math.MinInt))
	r := fixed()
	for range 150 {
		some = append(some, agg(pick(r, edges), pick(r, edges), pick(r, edges), pick(r, edges)))
	}
	return some
}

func TestAggOkLeastGreatestAndOneBeyond(t *testing.T) {
	for _, c := range []struct {
		a  impl.AggAgg
		ok bool
	}{
		{agg(0, 0, 0, 0), true}, {agg(0, 1, 0, 0), false}, {agg(0, -1, 0, 0), false}, {agg(0, 0, -1, 0), false}, {agg(0, 0, 0, 1), false}, {agg(0, 0, -1, 1), false},
		{agg(1, 0, 0, 0), true}, {agg(-1, 0, 0, 0), false}, {agg(1000, 0, 0, 0), true}, {agg(1001, 0, 0, 0), false},
		{agg(1, -9, -9, -9), true}, {agg(1, -10, -10, -10), false}, {agg(1, -9, -10, -9), false}, {agg(1, 9, 9, 9), true}, {agg(1, 10, 10, 10), false}, {agg(1, 9, 9, 10), false},
		{agg(2, 7, 4, 3), false}, {agg(2, 8, 4, 4), true}, {agg(2, 0, 9, -9), false},
		{agg(3, -6, -2, 5), true}, {agg(3, -7, -2, 5), false}, {agg(3, 15, -2, 5), true}, {agg(3, 16, -2, 5), false},
		{agg(1, 0, -9, 9), true}, {agg(1, 9, -9, 9), true}, {agg(1, -9, -9, 9), true}, {agg(1, 10, -9, 9), false}, {agg(1, -10, -9, 9), false},
		{agg(1000, 9000, -9, 9), true}, {agg(1000, 9001, -9, 9), false}, {agg(1000, -9000, -9, 9), true}, {agg(1000, -9001, -9, 9), false},
		{agg(math.MaxInt, 0, -1, 1), false}, {agg(math.MinInt, 0, 0, 0), false}, {agg(1, math.MaxInt, -9, 9), false}, {agg(1, math.MinInt, -9, 9), false},
		{agg(2, 0, math.MinInt, 0), false}, {agg(2, 0, 0, math.MaxInt), false}, {agg(2, 0, math.MinInt, math.MaxInt), false},
	} {
		if impl.AggOk(c.a) != c.ok {
			t.Errorf("%v: %v", c.a, impl.AggOk(c.a))
		}
	}
}

func TestAggOkOfAnyNumbers(t *testing.T) {
	for _, n := range edges {
		for _, sum := range edges {
			for _, least := range edges {
				for _, most := range edges {
					if a := agg(n, sum, least, most); impl.AggOk(a) != isKnown(a) {
						t.Fatalf("%v: %v", a, impl.AggOk(a))
					}
				}
			}
		}
	}
	for n := -1; n <= 4; n++ {
		for sum := -45; sum <= 45; sum++ {
			for least := -11; least <= 11; least++ {
				for most := -11; most <= 11; most++ {
					if a := agg(n, sum, least, most); impl.AggOk(a) != isKnown(a) {
						t.Fatalf("%v: %v", a, impl.AggOk(a))
					}
				}
			}
		}
	}
}

func TestP65Both(t *testing.T) {
	for _, c := range []struct{ a, b, both impl.AggAgg }{
		{agg(0, 0, 0, 0), agg(0, 0, 0, 0), agg(0, 0, 0, 0)},
		{agg(0, 0, 0, 0), agg(1, 5, 5, 5), agg(1, 5, 5, 5)},
		{agg(0, 0, 0, 0), agg(1, -5, -5, -5), agg(1, -5, -5, -5)},
		{agg(1, 5, 5, 5), agg(1, 5, 5, 5), agg(2, 10, 5, 5)},
		{agg(1, 5, 5, 5), agg(1, -5, -5, -5), agg(2, 0, -5, 5)},
		{agg(2, -2, -5, 3), agg(3, 12, 1, 9), agg(5, 10, -5, 9)},
		{agg(2, -2, -5, 3), agg(1, 0, 0, 0), agg(3, -2, -5, 3)},
		{agg(500, 4500, 9, 9), agg(500, -4500, -9, -9), agg(1000, 0, -9, 9)},
	} {
		if impl.AggBoth(c.a, c.b) != c.both || impl.AggBoth(c.b, c.a) != c.both {
			t.Errorf("%v %v: %v %v, not %v", c.a, c.b, impl.AggBoth(c.a, c.b), impl.AggBoth(c.b, c.a), c.both)
		}
	}
}

func TestP65WhatIsOkStaysOk(t *testing.T) {
	for _, a := range someKnown() {
		if impl.AggBoth(a, impl.AggAgg{}) != a || impl.AggBoth(impl.AggAgg{}, a) != a {
			t.Fatalf("nothing adds something to %v", a)
		}
		for _, b := range someKnown() {
			both := impl.AggBoth(a, b)
			// More values than AggMax are counted as they are, and are then not ok.
			if impl.AggOk(both) != (a.N+b.N <= 1000) || both.N != a.N+b.N || both.Sum != a.Sum+b.Sum {
				t.Fatalf("%v %v: %v", a, b, both)
			}
			if impl.AggBoth(b, a) != both {
				t.Fatalf("%v %v hang on their order", a, b)
			}
		}
	}
}

// bracketings is AggBoth of all, in order, with all brackets.
func bracketings(of []impl.AggAgg) []impl.AggAgg {
	if len(of) == 1 {
		return of
	}
	var all []impl.AggAgg
	for i := 1; i < len(of); i++ {
		for _, a := range bracketings(of[:i]) {
			for _, b := range bracketings(of[i:]) {
				all = append(all, impl.AggBoth(a, b))
			}
		}
	}
	return all
}

func TestP65EveryOrderAndEveryBrackets(t *testing.T) {
	r := fixed()
	some := someKnown()
	for n := range 120 {
		var parts []impl.AggAgg
		for range 1 + n%5 {
			parts = append(parts, pick(r, some))
		}
		want := parts[0]
		for _, p := range parts[1:] {
			want = impl.AggBoth(want, p)
		}
		for _, o := range orders(parts) {
			for _, got := range bracketings(o) {
				if got != want {
					t.Fatalf("%v: %v, %v in another order or with other brackets", o, got, want)
				}
			}
		}
	}
}

func TestP65BothOfAny(t *testing.T) {
	for _, a := range anyKnown() {
		for _, b := range anyKnown() {
			want := agg(a.N+b.N, a.Sum+b.Sum, min(a.Least, b.Least), max(a.Most, b.Most))
			if b.N == 0 {
				want = a
			}
			if a.N == 0 {
				want = b // the first whose N is 0 is the one, if both are
			}
			if got := impl.AggBoth(a, b); got != want {
				t.Fatalf("%v %v: %v, not %v", a, b, got, want)
			}
		}
	}
}

func TestP65BothOfWhatIsNotOk(t *testing.T) {
	some := agg(2, -2, -5, 3)
	for _, none := range []impl.AggAgg{agg(0, 1, 0, 0), agg(0, 0, -7, 0), agg(0, 0, 0, 8), agg(0, math.MaxInt, math.MinInt, math.MaxInt)} {
		if impl.AggBoth(some, none) != some || impl.AggBoth(none, some) != some {
			t.Errorf("%v: %v %v", none, impl.AggBoth(some, none), impl.AggBoth(none, some))
		}
		if impl.AggBoth(none, impl.AggAgg{}) != (impl.AggAgg{}) || impl.AggBoth(impl.AggAgg{}, none) != none {
			t.Errorf("%v and nothing: %v %v", none, impl.AggBoth(none, impl.AggAgg{}), impl.AggBoth(impl.AggAgg{}, none))
		}
	}
	great, small := agg(math.MaxInt, math.MaxInt, 0, math.MaxInt), agg(math.MinInt, math.MinInt, math.MinInt, 0)
	for _, c := range []struct{ a, b, both impl.AggAgg }{
		{great, agg(1, 1, 1, 1), agg(math.MinInt, math.MinInt, 0, math.MaxInt)},
		{small, agg(-1, -1, -1, -1), agg(math.MaxInt, math.MaxInt, math.MinInt, 0)},
		{great, small, agg(-1, -1, math.MinInt, math.MaxInt)},
		{great, great, agg(-2, -2, 0, math.MaxInt)},
		{small, small, agg(0, 0, math.MinInt, 0)},
		{agg(1, 1, 1, 1), agg(-1, 4, 4, 4), agg(0, 5, 1, 4)},
	} {
		if impl.AggBoth(c.a, c.b) != c.both || impl.AggBoth(c.b, c.a) != c.both {
			t.Errorf("%v %v: %v %v, not %v", c.a, c.b, impl.AggBoth(c.a, c.b), impl.AggBoth(c.b, c.a), c.both)
		}
	}
}

func TestP66OneValueMore(t *testing.T) {
	for _, c := range []struct {
		a    impl.AggAgg
		v    int
		with impl.AggAgg
	}{
		{agg(0, 0, 0, 0), 0, agg(1, 0, 0, 0)},
		{agg(0, 0, 0, 0), 5, agg(1, 5, 5, 5)},
		{agg(0, 0, 0, 0), -5, agg(1, -5, -5, -5)},
		{agg(1, 3, 3, 3), -5, agg(2, -2, -5, 3)},
		{agg(2, -2, -5, 3), 4, agg(3, 2, -5, 4)},
		{agg(2, -2, -5, 3), 0, agg(3, -2, -5, 3)},
		{agg(999, 0, 0, 0), 9, agg(1000, 9, 0, 9)},
		{agg(0, 7, 7, 7), -2, agg(1, -2, -2, -2)},
		{agg(0, math.MaxInt, math.MinInt, math.MaxInt), 3, agg(1, 3, 3, 3)},
		{agg(-1, 4, 2, 2), 3, agg(0, 7, 2, 3)},
		{agg(1, math.MaxInt, 0, 0), 1, agg(2, math.MinInt, 0, 1)},
		{agg(1, math.MinInt, 0, 0), -1, agg(2, math.MaxInt, -1, 0)},
		{agg(math.MaxInt, 0, 0, 0), math.MaxInt, agg(math.MinInt, math.MaxInt, 0, math.MaxInt)},
		{agg(0, 0, 0, 0), math.MinInt, agg(1, math.MinInt, math.MinInt, math.MinInt)},
	} {
		if got := impl.AggAdd(c.a, c.v); got != c.with {
			t.Errorf("%v and %d: %v, not %v", c.a, c.v, got, c.with)
		}
	}
}

func TestP66OfWhatIsOk(t *testing.T) {
	for _, a := range someKnown() {
		for v := -9; v <= 9; v++ {
			b := impl.AggAdd(a, v)
			if b.N != a.N+1 || b.Sum != a.Sum+v || b.Least > v || b.Most < v || impl.AggOk(b) != (a.N < 1000) {
				t.Fatalf("%v and %d: %v", a, v, b)
			}
			if a.N > 0 && (b.Least != min(a.Least, v) || b.Most != max(a.Most, v)) || a.N == 0 && (b.Least != v || b.Most != v) {
				t.Fatalf("%v and %d: %v", a, v, b)
			}
		}
	}
}

func TestP66OfAny(t *testing.T) {
	for _, a := range anyKnown() {
		for _, v := range edges {
			want := agg(a.N+1, a.Sum+v, min(a.Least, v), max(a.Most, v))
			if a.N == 0 {
				want = agg(1, v, v, v)
			}
			if got := impl.AggAdd(a, v); got != want || got != impl.AggBoth(a, agg(1, v, v, v)) {
				t.Fatalf("%v and %d: %v, not %v", a, v, got, want)
			}
		}
	}
}

func TestP67EachKind(t *testing.T) {
	a := agg(2, -3, -5, 4)
	for kind, want := range map[int]int{-1: 0, 0: 0, 1: 2, 2: -3, 3: -5, 4: 4, 5: 0, 6: 0, math.MinInt: 0, math.MaxInt: 0} {
		if got := impl.AggTell(a, kind); got != want {
			t.Errorf("kind %d: %d, not %d", kind, got, want)
		}
	}
	for _, a := range anyKnown() {
		if impl.AggTell(a, impl.AggCount) != a.N || impl.AggTell(a, impl.AggSum) != a.Sum || impl.AggTell(a, impl.AggLeast) != a.Least || impl.AggTell(a, impl.AggMost) != a.Most {
			t.Fatalf("%v: %d %d %d %d", a, impl.AggTell(a, 1), impl.AggTell(a, 2), impl.AggTell(a, 3), impl.AggTell(a, 4))
		}
		for _, kind := range edges {
			if (kind < 1 || kind > 4) && impl.AggTell(a, kind) != 0 {
				t.Fatalf("%v, kind %d: %d", a, kind, impl.AggTell(a, kind))
			}
		}
	}
}

func TestP67OfNone(t *testing.T) {
	for kind := -2; kind <= 7; kind++ {
		if got := impl.AggTell(impl.AggAgg{}, kind); got != 0 {
			t.Errorf("kind %d: %d", kind, got)
		}
	}
}

func TestP68EveryOrder(t *testing.T) {
	for _, values := range append(lists(4, -9, 0, 2, 9), []int{3, -5, 3, 9, -9, 0}, []int{1, 1, 1, 1, 1, -1}) {
		want := knownOf(values)
		for _, o := range orders(values) {
			if got := addAll(impl.AggAgg{}, o); got != want {
				t.Fatalf("%v: %v, not %v", o, got, want)
			}
		}
	}
}

func TestP68TwoParts(t *testing.T) {
	r := fixed()
	for n := range 60 {
		values := someValues(r, n)
		want := knownOf(values)
		for i := 0; i <= len(values); i++ {
			first, second := addAll(impl.AggAgg{}, values[:i]), addAll(impl.AggAgg{}, values[i:])
			if impl.AggBoth(first, second) != want || impl.AggBoth(second, first) != want || addAll(first, values[i:]) != want {
				t.Fatalf("%v, parted at %d: %v, not %v", values, i, impl.AggBoth(first, second), want)
			}
		}
	}
}

func TestP68Many(t *testing.T) {
	r := fixed()
	for _, n := range []int{0, 1, 2, 999, 1000, 1001} {
		values := someValues(r, n)
		got := addAll(impl.AggAgg{}, values)
		if got != knownOf(values) || impl.AggOk(got) != (n <= 1000) {
			t.Fatalf("%d values: %v, not %v", n, got, knownOf(values))
		}
		slices.Sort(values)
		if addAll(impl.AggAgg{}, values) != got {
			t.Fatalf("%d values hang on their order", n)
		}
	}
}

func TestValuesAnswerAtEveryArgument(t *testing.T) {
	r := fixed()
	for range 20000 {
		a := agg(pick(r, edges), pick(r, edges), pick(r, edges), pick(r, edges))
		b := agg(pick(r, edges), pick(r, edges), pick(r, edges), pick(r, edges))
		n := pick(r, edges)
		quiet(t, []any{a, b, n}, func() {
			impl.AggOk(a)
			impl.AggBoth(a, b)
			impl.AggAdd(a, n)
			impl.AggTell(a, n)
		})
	}
}
