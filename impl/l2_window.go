package impl

import (
	"strconv"
	"strings"
)

// WinWin is a window: from a time on, up to another one.
type WinWin struct {
	Start int
	End   int
}

func (w WinWin) ok() bool {
	return within(w.Start, 0, ItmMaxT) && within(w.End, w.Start+1, 2*ItmMaxT)
}

func (w WinWin) has(t int) bool {
	return w.Start <= t && t < w.End
}

func (w WinWin) touches(o WinWin) bool {
	return w.Start < o.End && o.Start < w.End
}

func (w WinWin) span(o WinWin) WinWin {
	return WinWin{Start: min(w.Start, o.Start), End: max(w.End, o.End)}
}

func (w WinWin) text() string {
	return strconv.Itoa(w.Start) + ".." + strconv.Itoa(w.End)
}

// WinOk says whether a window is ok.
func WinOk(w WinWin) bool {
	return w.ok()
}

// WinTouch says whether two windows have some time in common.
func WinTouch(a WinWin, b WinWin) bool {
	return a.touches(b)
}

// WinSpan is the window from the earlier beginning to the later end.
func WinSpan(a WinWin, b WinWin) WinWin {
	return a.span(b)
}

// WinText writes a window.
func WinText(w WinWin) string {
	if !w.ok() {
		return ""
	}
	return w.text()
}

// WinRead reads a window.
func WinRead(s string) (WinWin, bool) {
	before, behind, _ := strings.Cut(s, "..")
	start, fine := readNum(before)
	end, good := readNum(behind)
	w := WinWin{Start: start, End: end}
	if !fine || !good || !w.ok() {
		return WinWin{}, false
	}
	return w, true
}
