package impl

import (
	"iter"
	"strconv"
	"strings"
)

// Kinds of items, and limits.
const (
	ItmRec   = 1
	ItmMark  = 2
	ItmWall  = 3
	ItmMaxT  = 60
	ItmEnd   = 1000
	ItmMaxK  = 3
	ItmMaxV  = 9
	ItmMaxN  = 900
	LogMax   = 40
	WordsMax = 100
)

// ItmItem is what flows: a record (a time, a key, a value), a mark (nothing of an earlier time is to come), or a wall (of a number).
type ItmItem struct {
	Kind int
	T    int
	Key  int
	V    int
	N    int
}

// itmPart is an item as what it is by its kind.
type itmPart interface {
	ok() bool
	text() string
}

// The kinds keep all numbers of the item, those too that they should not have: what is not ok is gone through as well, and told as it came.
type (
	itmRec  ItmItem
	itmMark ItmItem
	itmWall ItmItem
	itmNone ItmItem
)

func (r itmRec) ok() bool {
	return within(r.T, 0, ItmMaxT) && within(r.Key, 0, ItmMaxK) && within(r.V, -ItmMaxV, ItmMaxV) && r.N == 0
}

func (r itmRec) text() string {
	return "rec " + strconv.Itoa(r.T) + " " + strconv.Itoa(r.Key) + " " + strconv.Itoa(r.V)
}

func (m itmMark) ok() bool {
	return (within(m.T, 1, ItmMaxT) || m.T == ItmEnd) && m.Key == 0 && m.V == 0 && m.N == 0
}

func (m itmMark) text() string {
	return "mark " + strconv.Itoa(m.T)
}

func (w itmWall) ok() bool {
	return within(w.N, 1, ItmMaxN) && w.T == 0 && w.Key == 0 && w.V == 0
}

func (w itmWall) text() string {
	return "wall " + strconv.Itoa(w.N)
}

func (itmNone) ok() bool {
	return false
}

func (itmNone) text() string {
	return ""
}

// partOf is an item as what it is by its kind.
func partOf(x ItmItem) itmPart {
	switch x.Kind {
	case ItmRec:
		return itmRec(x)
	case ItmMark:
		return itmMark(x)
	case ItmWall:
		return itmWall(x)
	}
	return itmNone(x)
}

// ItmOk says whether an item is ok.
func ItmOk(x ItmItem) bool {
	return partOf(x).ok()
}

// ItmText writes an item.
func ItmText(x ItmItem) string {
	p := partOf(x)
	if !p.ok() {
		return ""
	}
	return p.text()
}

// ItmRead reads an item.
func ItmRead(s string) (ItmItem, bool) {
	if len(s) > WordsMax {
		return ItmItem{}, false
	}
	words := strings.Split(s, " ")
	nums, ok := readNums(words[1:])
	if !ok {
		return ItmItem{}, false
	}
	x := itemOf(words[0], nums)
	if !ItmOk(x) {
		return ItmItem{}, false
	}
	return x, true
}

// itemOf is the item of a word and the numbers behind it; nothing, which is not ok, if there is no such one.
func itemOf(word string, nums []int) ItmItem {
	switch {
	case word == "rec" && len(nums) == 3:
		return ItmItem{Kind: ItmRec, T: nums[0], Key: nums[1], V: nums[2]}
	case word == "mark" && len(nums) == 1:
		return ItmItem{Kind: ItmMark, T: nums[0]}
	case word == "wall" && len(nums) == 1:
		return ItmItem{Kind: ItmWall, N: nums[0]}
	}
	return ItmItem{}
}

// LogOk says whether items are a log: records and rising marks, the last one the end.
func LogOk(log []ItmItem) bool {
	if len(log) < 1 || len(log) > LogMax {
		return false
	}
	mark := 0
	for p := range logParts(log) {
		if !mayFollow(p, mark) {
			return false
		}
		mark = markBehind(p, mark)
	}
	return log[len(log)-1] == ItmItem{Kind: ItmMark, T: ItmEnd}
}

// LogRecs is the records of a log that are not too small, in order.
func LogRecs(log []ItmItem, least int) []ItmItem {
	var recs []ItmItem
	for p := range logParts(log) {
		if r, ok := recordOf(p); ok && r.V >= least {
			recs = append(recs, r)
		}
	}
	return recs
}

// LogPunctual says whether no record of a log is later than may be: its time, and so much more, is not below any mark ahead of it.
func LogPunctual(log []ItmItem, late int) bool {
	if !within(late, 0, ItmEnd) {
		return false
	}
	mark := 0
	for p := range logParts(log) {
		// The mark is not below 0: taking late away from it can't wrap round, adding late to a time could.
		if r, ok := recordOf(p); ok && r.T < mark-late {
			return false
		}
		mark = markBehind(p, mark)
	}
	return true
}

// logParts tells the items of a log, each as what it is.
func logParts(log []ItmItem) iter.Seq[itmPart] {
	return func(yield func(itmPart) bool) {
		for _, x := range log {
			if !yield(partOf(x)) {
				return
			}
		}
	}
}

// mayFollow says whether an item may stand in a log behind marks up to one.
func mayFollow(p itmPart, mark int) bool {
	switch x := p.(type) {
	case itmRec:
		return x.ok()
	case itmMark:
		return x.ok() && x.T > mark
	}
	return false
}

// markBehind is the greatest mark behind an item, of that ahead of it.
func markBehind(p itmPart, mark int) int {
	switch m := p.(type) {
	case itmMark:
		return max(mark, m.T)
	}
	return mark
}

// recordOf is the record that an item is, and whether it is one.
func recordOf(p itmPart) (ItmItem, bool) {
	switch r := p.(type) {
	case itmRec:
		return ItmItem(r), true
	}
	return ItmItem{}, false
}

// isRecord says whether an item is a record that is ok.
func isRecord(x ItmItem) bool {
	r, is := recordOf(partOf(x))
	return is && ItmOk(r)
}

// within says whether a number is from least to most.
func within(n int, least int, most int) bool {
	return least <= n && n <= most
}

// readNums reads numbers, each written as it is told; false, if one is not.
func readNums(words []string) ([]int, bool) {
	var nums []int
	for _, w := range words {
		n, ok := readNum(w)
		if !ok {
			return nil, false
		}
		nums = append(nums, n)
	}
	return nums, true
}

// readNum reads a number that is written just as it is told: there is one text for each.
func readNum(s string) (int, bool) {
	n, err := strconv.Atoi(s)
	if err != nil || strconv.Itoa(n) != s {
		return 0, false
	}
	return n, true
}
