package tests

import (
	"math"
	"math/rand"
	"slices"
	"strings"
	"testing"

	"loop.example/freshet/impl"
)

// edges are numbers at and around the limits of the chapters, and as far from them as an int goes.
var edges = []int{
	math.MinInt, math.MinInt + 1, math.MinInt32, -1001, -1000, -121, -61, -60, -10, -9, -4, -1,
	0, 1, 2, 3, 4, 5, 9, 10, 20, 21, 40, 41, 59, 60, 61, 119, 120, 121, 899, 900, 901, 999, 1000, 1001,
	math.MaxInt32, math.MaxInt - 1000, math.MaxInt - 1, math.MaxInt,
}

func rec(t, key, v int) impl.ItmItem {
	return impl.ItmItem{Kind: impl.ItmRec, T: t, Key: key, V: v}
}

func mark(t int) impl.ItmItem {
	return impl.ItmItem{Kind: impl.ItmMark, T: t}
}

func wall(n int) impl.ItmItem {
	return impl.ItmItem{Kind: impl.ItmWall, N: n}
}

// fixed is a source of choices that is the same in each run.
func fixed() *rand.Rand {
	return rand.New(rand.NewSource(7))
}

func pick[T any](r *rand.Rand, from []T) T {
	return from[r.Intn(len(from))]
}

// anyItem is an item of any numbers, more often than not nearly one that is ok.
func anyItem(r *rand.Rand) impl.ItmItem {
	if r.Intn(8) == 0 {
		return impl.ItmItem{Kind: pick(r, edges), T: pick(r, edges), Key: pick(r, edges), V: pick(r, edges), N: pick(r, edges)}
	}
	x := impl.ItmItem{Kind: r.Intn(5)}
	switch x.Kind {
	case impl.ItmRec:
		x.T, x.Key, x.V = r.Intn(63)-1, r.Intn(4), r.Intn(21)-10
	case impl.ItmMark:
		x.T = r.Intn(63)
	case impl.ItmWall:
		x.N = r.Intn(5)
	}
	if r.Intn(12) == 0 {
		x.Key, x.V, x.N = r.Intn(2), r.Intn(2), r.Intn(2)
	}
	return x
}

func anyItems(r *rand.Rand, most int) []impl.ItmItem {
	return several(r, most, anyItem)
}

// several is a list of at most so many, each any one.
func several[T any](r *rand.Rand, most int, anyOne func(*rand.Rand) T) []T {
	list := make([]T, r.Intn(most+1))
	for i := range list {
		list[i] = anyOne(r)
	}
	return list
}

// lists is all lists of at most so many, of a few.
func lists[T any](most int, of ...T) [][]T {
	all := [][]T{nil}
	for i := 0; i < len(all) && len(all[i]) < most; i++ {
		for _, x := range of {
			all = append(all, append(slices.Clone(all[i]), x))
		}
	}
	return all
}

// aLog is a log that is ok, of at most so many items.
func aLog(r *rand.Rand, most int) []impl.ItmItem {
	var log []impl.ItmItem
	last := 0
	for n := r.Intn(most); len(log) < n; {
		if r.Intn(3) == 0 && last < impl.ItmMaxT {
			last += 1 + r.Intn(min(6, impl.ItmMaxT-last))
			log = append(log, mark(last))
		} else {
			log = append(log, rec(r.Intn(impl.ItmMaxT+1), r.Intn(impl.ItmMaxK+1), r.Intn(2*impl.ItmMaxV+1)-impl.ItmMaxV))
		}
	}
	return append(log, mark(impl.ItmEnd))
}

// guarded lays a list ahead of others that nobody may touch, with room enough behind the end for an append to go wrong.
type guarded[T comparable] struct {
	whole []T
	given []T
	was   []T
}

// guard lays such a list ahead of another thing, eight times.
func guard[T comparable](list []T, other T) guarded[T] {
	whole := slices.Clone(list)
	for range 8 {
		whole = append(whole, other)
	}
	return guarded[T]{whole: whole, given: whole[:len(list)], was: slices.Clone(whole)}
}

func (g guarded[T]) check(t *testing.T, by string) {
	t.Helper()
	if !slices.Equal(g.whole, g.was) {
		t.Fatalf("%s has written into its argument or behind its end: %v, was %v", by, g.whole, g.was)
	}
}

// fill writes over a list, up to the end of its room.
func fill[T any](list []T, with T) {
	room := list[:cap(list)]
	for i := range room {
		room[i] = with
	}
}

// orders is a list in all orders.
func orders[T any](list []T) [][]T {
	if len(list) == 0 {
		return [][]T{nil}
	}
	var all [][]T
	for i := range list {
		rest := append(slices.Clone(list[:i]), list[i+1:]...)
		for _, o := range orders(rest) {
			all = append(all, append([]T{list[i]}, o...))
		}
	}
	return all
}

// quiet fails a test, with the call, if the call panics.
func quiet(t *testing.T, what any, call func()) {
	t.Helper()
	defer func() {
		if p := recover(); p != nil {
			t.Fatalf("panic at %#v: %v", what, p)
		}
	}()
	call()
}

// near is a text with each byte left out, doubled, put in or put in the place of each other one.
func near(s string) []string {
	out := []string{s + s, s + " " + s, s + "\n", strings.ToUpper(s)}
	for i := 0; i <= len(s); i++ {
		for b := 0; b < 256; b++ {
			out = append(out, s[:i]+string([]byte{byte(b)})+s[i:])
			if i < len(s) {
				out = append(out, s[:i]+string([]byte{byte(b)})+s[i+1:])
			}
		}
		if i < len(s) {
			out = append(out, s[:i]+s[i+1:], s[:i], s[i:])
		}
	}
	return out
}

// anyText is a text of bytes that texts of items and windows are made of, or of any bytes.
func anyText(r *rand.Rand) string {
	pieces := []string{"rec", "mark", "wall", " ", " ", " ", "..", ".", "-", "+", "0", "1", "5", "9", "60", "1000", "\t", "\x00", "\xff", "é"}
	var b strings.Builder
	for range r.Intn(9) {
		if r.Intn(10) == 0 {
			b.WriteByte(byte(r.Intn(256)))
		} else {
			b.WriteString(pick(r, pieces))
		}
	}
	return b.String()
}
