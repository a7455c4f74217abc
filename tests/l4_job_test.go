package tests

import (
	"fmt"
	"math"
	"math/rand"
	"regexp"
	"slices"
	"strconv"
	"strings"
	"testing"

	"loop.example/freshet/impl"
)

func TestNumbersOfJobs(t *testing.T) {
	got := []int{impl.WinFixed, impl.WinSlide, impl.WinSess, impl.JobMaxSrc, impl.JobMaxTask, impl.JobMaxSize, impl.JobMaxRoom, impl.JobMaxOver}
	if want := []int{1, 2, 3, 3, 2, 20, 4, 4}; !slices.Equal(got, want) {
		t.Fatal(got, want)
	}
}

// plainJob is a job that is ok, with such windows.
func plainJob(kind, size, step int) impl.JobJob {
	return impl.JobJob{Sources: 2, Tasks: 2, Kind: kind, Size: size, Step: step, Late: 4, Tell: impl.AggSum, Piece: true, Least: -3, Room: 3}
}

// windowJobs is jobs with all windows that are ok.
func windowJobs() []impl.JobJob {
	var all []impl.JobJob
	for size := 1; size <= 20; size++ {
		all = append(all, plainJob(impl.WinFixed, size, 0), plainJob(impl.WinSess, size, 0))
		for step := 1; step <= size; step++ {
			if size <= 4*step {
				all = append(all, plainJob(impl.WinSlide, size, step))
			}
		}
	}
	return all
}

// anyJob is a job that is ok, of any numbers.
func anyJob(r *rand.Rand) impl.JobJob {
	j := plainJob(1+r.Intn(3), 1+r.Intn(20), 0)
	if j.Kind == impl.WinSlide {
		least := (j.Size + 3) / 4
		j.Step = least + r.Intn(j.Size-least+1)
	}
	j.Sources, j.Tasks, j.Late, j.Tell = 1+r.Intn(3), 1+r.Intn(2), r.Intn(21), 1+r.Intn(4)
	j.Piece, j.Least, j.Room = r.Intn(2) == 0, r.Intn(19)-9, 1+r.Intn(4)
	return j
}

// jobNumber is one of a job's numbers, with its bounds.
type jobNumber struct {
	name        string
	of          func(*impl.JobJob) *int
	least, most int
}

// jobNumbers is all numbers of a job whose bounds hang on no other one.
func jobNumbers() []jobNumber {
	return []jobNumber{
		{"Sources", func(j *impl.JobJob) *int { return &j.Sources }, 1, 3},
		{"Tasks", func(j *impl.JobJob) *int { return &j.Tasks }, 1, 2},
		{"Late", func(j *impl.JobJob) *int { return &j.Late }, 0, 20},
		{"Tell", func(j *impl.JobJob) *int { return &j.Tell }, 1, 4},
		{"Least", func(j *impl.JobJob) *int { return &j.Least }, -9, 9},
		{"Room", func(j *impl.JobJob) *int { return &j.Room }, 1, 4},
	}
}

// isJob says the same as JobOk, from the document's words.
func isJob(j impl.JobJob) bool {
	for _, n := range jobNumbers() {
		if *n.of(&j) < n.least || *n.of(&j) > n.most {
			return false
		}
	}
	if j.Size < 1 || j.Size > 20 {
		return false
	}
	switch j.Kind {
	case impl.WinFixed, impl.WinSess:
		return j.Step == 0
	case impl.WinSlide:
		return j.Step >= 1 && j.Step <= j.Size && j.Size <= 4*j.Step
	}
	return false
}

// brokenJobs is jobs that are not ok, each by one thing alone.
func brokenJobs() []impl.JobJob {
	fixed, slide, sess := plainJob(impl.WinFixed, 5, 0), plainJob(impl.WinSlide, 6, 2), plainJob(impl.WinSess, 5, 0)
	var broken []impl.JobJob
	for _, j := range []impl.JobJob{fixed, slide, sess} {
		for _, n := range jobNumbers() {
			for _, v := range []int{math.MinInt, n.least - 1, n.most + 1, math.MaxInt} {
				k := j
				*n.of(&k) = v
				broken = append(broken, k)
			}
		}
	}
	for _, v := range []int{math.MinInt, -1, 0, 4, math.MaxInt} {
		broken = append(broken, plainJob(v, 5, 0))
	}
	for _, v := range []int{math.MinInt, -1, 0, 21, math.MaxInt} {
		broken = append(broken, plainJob(impl.WinFixed, v, 0), plainJob(impl.WinSess, v, 0), plainJob(impl.WinSlide, v, 20), plainJob(impl.WinSlide, v, 0), plainJob(impl.WinSlide, v, v))
	}
	for _, v := range []int{math.MinInt, -1, 1, 5, math.MaxInt} {
		broken = append(broken, plainJob(impl.WinFixed, 5, v), plainJob(impl.WinSess, 5, v))
	}
	for _, v := range []int{math.MinInt, -1, 0, 6, 7, math.MaxInt/4 + 1, math.MaxInt/2 + 1, math.MaxInt} {
		broken = append(broken, plainJob(impl.WinSlide, 5, v))
	}
	return append(broken, impl.JobJob{}, plainJob(impl.WinSlide, 5, 1), plainJob(impl.WinSlide, 9, 2), plainJob(impl.WinSlide, 20, 4))
}

func TestJobOkLeastGreatestAndOneBeyond(t *testing.T) {
	for _, n := range jobNumbers() {
		for v, ok := range map[int]bool{math.MinInt: false, n.least - 1: false, n.least: true, n.most: true, n.most + 1: false, math.MaxInt: false} {
			j := plainJob(impl.WinSess, 5, 0)
			*n.of(&j) = v
			if impl.JobOk(j) != ok {
				t.Errorf("%s %d: %v", n.name, v, impl.JobOk(j))
			}
		}
	}
	for _, c := range []struct {
		kind, size, step int
		ok               bool
	}{
		{0, 5, 0, false}, {1, 5, 0, true}, {3, 5, 0, true}, {4, 5, 0, false}, {0, 5, 5, false}, {4, 5, 5, false},
		{1, 0, 0, false}, {1, 1, 0, true}, {1, 20, 0, true}, {1, 21, 0, false}, {3, 0, 0, false}, {3, 1, 0, true}, {3, 20, 0, true}, {3, 21, 0, false},
		{1, 5, 1, false}, {1, 5, 5, false}, {1, 5, -1, false}, {3, 5, 1, false}, {3, 5, 5, false}, {3, 5, -1, false},
		{2, 0, 0, false}, {2, 0, 1, false}, {2, 1, 1, true}, {2, 1, 0, false}, {2, 1, 2, false}, {2, 20, 20, true}, {2, 20, 21, false}, {2, 21, 21, false}, {2, 21, 20, false},
		{2, 4, 1, true}, {2, 5, 1, false}, {2, 8, 2, true}, {2, 9, 2, false}, {2, 12, 3, true}, {2, 13, 3, false}, {2, 20, 5, true}, {2, 20, 4, false}, {2, 19, 4, false}, {2, 17, 4, false}, {2, 16, 4, true},
		{2, 5, 0, false}, {2, 5, -1, false}, {2, 5, 5, true}, {2, 5, 6, false},
	} {
		if j := plainJob(c.kind, c.size, c.step); impl.JobOk(j) != c.ok {
			t.Errorf("%v: %v", j, impl.JobOk(j))
		}
	}
}

func TestJobOkOfAnyNumbers(t *testing.T) {
	for kind := -1; kind <= 5; kind++ {
		for size := -2; size <= 23; size++ {
			for step := -2; step <= 23; step++ {
				if j := plainJob(kind, size, step); impl.JobOk(j) != isJob(j) {
					t.Fatalf("%v: %v", j, impl.JobOk(j))
				}
			}
		}
	}
	for _, kind := range edges {
		for _, size := range edges {
			for _, step := range append(slices.Clone(edges), math.MaxInt/4+1, math.MaxInt/2+1, math.MinInt/4, math.MinInt/2) {
				if j := plainJob(kind, size, step); impl.JobOk(j) != isJob(j) {
					t.Fatalf("%v: %v", j, impl.JobOk(j))
				}
			}
		}
	}
	r := fixed()
	for range 50000 {
		if j := anyNumbersJob(r); impl.JobOk(j) != isJob(j) {
			t.Fatalf("%v: %v", j, impl.JobOk(j))
		}
	}
	for _, j := range brokenJobs() {
		if impl.JobOk(j) {
			t.Fatalf("%v is not ok", j)
		}
	}
}

// anyNumbersJob is a job of which a few numbers are any, the others ok.
func anyNumbersJob(r *rand.Rand) impl.JobJob {
	j := anyJob(r)
	of := []*int{&j.Sources, &j.Tasks, &j.Kind, &j.Size, &j.Step, &j.Late, &j.Tell, &j.Least, &j.Room}
	for range r.Intn(4) {
		*pick(r, of) = pick(r, edges)
	}
	return j
}

// windowsOf says the same as WinOf, from the document's words, window by window.
func windowsOf(j impl.JobJob, t int) []impl.WinWin {
	var wins []impl.WinWin
	if !isJob(j) || t < 0 || t > 60 {
		return nil
	}
	for start := 0; start <= 60; start++ {
		w := impl.WinWin{Start: start, End: start + j.Size}
		is := false
		switch j.Kind {
		case impl.WinFixed:
			is = start%j.Size == 0
		case impl.WinSlide:
			is = start%j.Step == 0
		case impl.WinSess:
			is = start == t
		}
		if is && has(w, t) {
			wins = append(wins, w)
		}
	}
	return wins
}

func wins(bounds ...int) []impl.WinWin {
	var all []impl.WinWin
	for i := 0; i+1 < len(bounds); i += 2 {
		all = append(all, impl.WinWin{Start: bounds[i], End: bounds[i+1]})
	}
	return all
}

func TestP61WhichWindowsHaveATime(t *testing.T) {
	for _, c := range []struct {
		kind, size, step, at int
		want                 []impl.WinWin
	}{
		{impl.WinFixed, 5, 0, 0, wins(0, 5)}, {impl.WinFixed, 5, 0, 4, wins(0, 5)}, {impl.WinFixed, 5, 0, 5, wins(5, 10)}, {impl.WinFixed, 5, 0, 6, wins(5, 10)}, {impl.WinFixed, 5, 0, 9, wins(5, 10)}, {impl.WinFixed, 5, 0, 10, wins(10, 15)},
		{impl.WinFixed, 5, 0, 60, wins(60, 65)}, {impl.WinFixed, 7, 0, 60, wins(56, 63)}, {impl.WinFixed, 1, 0, 60, wins(60, 61)}, {impl.WinFixed, 20, 0, 60, wins(60, 80)}, {impl.WinFixed, 20, 0, 59, wins(40, 60)}, {impl.WinFixed, 1, 0, 0, wins(0, 1)},
		{impl.WinFixed, 5, 0, -1, nil}, {impl.WinFixed, 5, 0, 61, nil},
		{impl.WinSlide, 6, 2, 0, wins(0, 6)}, {impl.WinSlide, 6, 2, 1, wins(0, 6)}, {impl.WinSlide, 6, 2, 2, wins(0, 6, 2, 8)}, {impl.WinSlide, 6, 2, 3, wins(0, 6, 2, 8)}, {impl.WinSlide, 6, 2, 5, wins(0, 6, 2, 8, 4, 10)},
		{impl.WinSlide, 6, 2, 6, wins(2, 8, 4, 10, 6, 12)}, {impl.WinSlide, 6, 2, 7, wins(2, 8, 4, 10, 6, 12)}, {impl.WinSlide, 6, 2, 8, wins(4, 10, 6, 12, 8, 14)}, {impl.WinSlide, 6, 2, 60, wins(56, 62, 58, 64, 60, 66)},
		{impl.WinSlide, 4, 1, 0, wins(0, 4)}, {impl.WinSlide, 4, 1, 2, wins(0, 4, 1, 5, 2, 6)}, {impl.WinSlide, 4, 1, 3, wins(0, 4, 1, 5, 2, 6, 3, 7)}, {impl.WinSlide, 4, 1, 60, wins(57, 61, 58, 62, 59, 63, 60, 64)},
		{impl.WinSlide, 5, 2, 0, wins(0, 5)}, {impl.WinSlide, 5, 2, 4, wins(0, 5, 2, 7, 4, 9)}, {impl.WinSlide, 5, 2, 5, wins(2, 7, 4, 9)}, {impl.WinSlide, 5, 2, 6, wins(2, 7, 4, 9, 6, 11)}, {impl.WinSlide, 5, 2, 60, wins(56, 61, 58, 63, 60, 65)}, {impl.WinSlide, 5, 2, 59, wins(56, 61, 58, 63)},
		{impl.WinSlide, 5, 3, 5, wins(3, 8)}, {impl.WinSlide, 5, 3, 4, wins(0, 5, 3, 8)}, {impl.WinSlide, 5, 5, 4, wins(0, 5)}, {impl.WinSlide, 5, 5, 5, wins(5, 10)}, {impl.WinSlide, 5, 5, 60, wins(60, 65)}, {impl.WinSlide, 1, 1, 7, wins(7, 8)},
		{impl.WinSlide, 20, 5, 0, wins(0, 20)}, {impl.WinSlide, 20, 5, 4, wins(0, 20)}, {impl.WinSlide, 20, 5, 5, wins(0, 20, 5, 25)}, {impl.WinSlide, 20, 5, 14, wins(0, 20, 5, 25, 10, 30)}, {impl.WinSlide, 20, 5, 19, wins(0, 20, 5, 25, 10, 30, 15, 35)},
		{impl.WinSlide, 20, 5, 20, wins(5, 25, 10, 30, 15, 35, 20, 40)}, {impl.WinSlide, 20, 5, 60, wins(45, 65, 50, 70, 55, 75, 60, 80)}, {impl.WinSlide, 20, 20, 60, wins(60, 80)}, {impl.WinSlide, 20, 19, 60, wins(57, 77)}, {impl.WinSlide, 20, 19, 19, wins(0, 20, 19, 39)},
		{impl.WinSlide, 6, 2, -1, nil}, {impl.WinSlide, 6, 2, 61, nil},
		{impl.WinSess, 5, 0, 0, wins(0, 5)}, {impl.WinSess, 5, 0, 4, wins(4, 9)}, {impl.WinSess, 5, 0, 5, wins(5, 10)}, {impl.WinSess, 20, 0, 60, wins(60, 80)}, {impl.WinSess, 1, 0, 60, wins(60, 61)}, {impl.WinSess, 5, 0, -1, nil}, {impl.WinSess, 5, 0, 61, nil},
	} {
		j := plainJob(c.kind, c.size, c.step)
		if got := impl.WinOf(j, c.at); !slices.Equal(got, c.want) {
			t.Errorf("%v at %d: %v, not %v", j, c.at, got, c.want)
		}
	}
}

func TestP61EachWindowOfEachTime(t *testing.T) {
	for _, j := range windowJobs() {
		for at := -3; at <= 64; at++ {
			got := impl.WinOf(j, at)
			if !slices.Equal(got, windowsOf(j, at)) {
				t.Fatalf("%v at %d: %v, not %v", j, at, got, windowsOf(j, at))
			}
			if at < 0 || at > 60 {
				continue
			}
			if len(got) < 1 || len(got) > 4 {
				t.Fatalf("%v at %d: %v", j, at, got)
			}
			for i, w := range got {
				if !impl.WinOk(w) || !has(w, at) || w.End-w.Start != j.Size || i > 0 && w.Start <= got[i-1].Start {
					t.Fatalf("%v at %d: %v", j, at, got)
				}
			}
		}
		for _, at := range edges {
			if got := impl.WinOf(j, at); !slices.Equal(got, windowsOf(j, at)) {
				t.Fatalf("%v at %d: %v", j, at, got)
			}
		}
	}
}

func TestP61WindowsHangOnNothingElse(t *testing.T) {
	r := fixed()
	for range 5000 {
		j, at := anyJob(r), r.Intn(61)
		if got, want := impl.WinOf(j, at), impl.WinOf(plainJob(j.Kind, j.Size, j.Step), at); !slices.Equal(got, want) {
			t.Fatalf("%v at %d: %v, not %v", j, at, got, want)
		}
	}
}

func TestP61NoWindowsOfAJobThatIsNotOk(t *testing.T) {
	for _, j := range brokenJobs() {
		for _, at := range []int{0, 1, 5, 60, 61, -1, math.MinInt, math.MaxInt} {
			if got := impl.WinOf(j, at); len(got) != 0 {
				t.Fatalf("%v at %d: %v", j, at, got)
			}
		}
	}
}

func TestP62SlidingByTheirSize(t *testing.T) {
	for size := 1; size <= 20; size++ {
		fixed, slide := plainJob(impl.WinFixed, size, 0), plainJob(impl.WinSlide, size, size)
		for at := -1; at <= 61; at++ {
			a, b := impl.WinOf(fixed, at), impl.WinOf(slide, at)
			if !slices.Equal(a, b) || (len(a) == 1) != (at >= 0 && at <= 60) {
				t.Fatalf("size %d at %d: %v, sliding %v", size, at, a, b)
			}
		}
	}
}

func TestP62ASessionsWindow(t *testing.T) {
	for size := 1; size <= 20; size++ {
		for at := 0; at <= 60; at++ {
			got := impl.WinOf(plainJob(impl.WinSess, size, 0), at)
			if len(got) != 1 || got[0].Start != at || got[0].End != at+size {
				t.Fatalf("size %d at %d: %v", size, at, got)
			}
			if !impl.WinTouch(got[0], impl.WinWin{Start: at, End: at + 1}) || impl.WinTouch(got[0], impl.WinWin{Start: at + size, End: at + size + 1}) {
				t.Fatalf("size %d at %d: %v does not touch its time alone", size, at, got)
			}
		}
	}
}

func TestP63KeysGoRound(t *testing.T) {
	for _, j := range windowJobs() {
		for tasks, want := range map[int][]int{1: {0, 0, 0, 0}, 2: {0, 1, 0, 1}} {
			j.Tasks = tasks
			for key, task := range want {
				if got := impl.JobTask(j, key); got != task {
					t.Fatalf("%v, key %d: %d, not %d", j, key, got, task)
				}
			}
		}
	}
}

func TestP63NoSuchKey(t *testing.T) {
	for _, tasks := range []int{1, 2} {
		j := plainJob(impl.WinSess, 5, 0)
		j.Tasks = tasks
		for _, key := range []int{math.MinInt, -4, -2, -1, 4, 5, 6, 60, math.MaxInt} {
			if got := impl.JobTask(j, key); got != -1 {
				t.Errorf("%d tasks, key %d: %d", tasks, key, got)
			}
		}
	}
}

func TestP63AJobThatIsNotOk(t *testing.T) {
	for _, j := range brokenJobs() {
		for _, key := range []int{0, 1, 2, 3, -1, 4, math.MinInt, math.MaxInt} {
			if got := impl.JobTask(j, key); got != -1 {
				t.Fatalf("%v, key %d: %d", j, key, got)
			}
		}
	}
}

var words = []string{"sources", "tasks", "windows", "size", "step", "late", "tell", "piece", "least", "room"}

var (
	aNumber     = regexp.MustCompile(`\A(0|-?[1-9][0-9]{0,6})\z`)
	noughtOrOne = regexp.MustCompile(`\A[01]\z`)
)

// wrongLine is the first line that is wrong by itself, from 1 on, or 0: from the document's words.
func wrongLine(lines []string) int {
	for i, line := range lines {
		if i == 10 {
			return 11
		}
		number, found := strings.CutPrefix(line, words[i]+" ")
		want := aNumber
		if words[i] == "piece" {
			want = noughtOrOne
		}
		if !found || !want.MatchString(number) {
			return i + 1
		}
	}
	return 0
}

// jobIn is the job that ten lines without a wrong one tell, whether it is ok or not.
func jobIn(t *testing.T, lines []string) impl.JobJob {
	t.Helper()
	var n []int
	for _, line := range lines {
		v, err := strconv.Atoi(strings.Fields(line)[1])
		if err != nil {
			t.Fatal(err)
		}
		n = append(n, v)
	}
	return impl.JobJob{Sources: n[0], Tasks: n[1], Kind: n[2], Size: n[3], Step: n[4], Late: n[5], Tell: n[6], Piece: n[7] == 1, Least: n[8], Room: n[9]}
}

// checkLines holds JobParse of lines against the document's words.
func checkLines(t *testing.T, lines []string) {
	t.Helper()
	want, wrong := impl.JobJob{}, wrongLine(lines)
	switch {
	case wrong != 0:
	case len(lines) < 10:
		wrong = len(lines) + 1
	case !isJob(jobIn(t, lines)):
		wrong = 11
	default:
		want = jobIn(t, lines)
	}
	got, line := impl.JobParse(lines)
	if got != want || line != wrong {
		t.Fatalf("%q: %v and line %d, not %v and %d", lines, got, line, want, wrong)
	}
	if line == 0 && !slices.Equal(impl.JobPrint(got), lines) {
		t.Fatalf("%q reads as %v, which prints as %q", lines, got, impl.JobPrint(got))
	}
}

// plainLines is lines of a job that is ok, with other ones at some places, from 1 on.
func plainLines(other map[int]string) []string {
	lines := []string{"sources 2", "tasks 1", "windows 3", "size 5", "step 0", "late 4", "tell 2", "piece 0", "least -9", "room 3"}
	for at, line := range other {
		lines[at-1] = line
	}
	return lines
}

func TestP64TheDocumentsJob(t *testing.T) {
	want := impl.JobJob{Sources: 2, Tasks: 1, Kind: impl.WinSess, Size: 5, Late: 4, Tell: impl.AggSum, Least: -9, Room: 3}
	if j, line := impl.JobParse(plainLines(nil)); j != want || line != 0 {
		t.Fatal(j, line)
	}
	if lines := impl.JobPrint(want); !slices.Equal(lines, plainLines(nil)) {
		t.Fatalf("%q", lines)
	}
	slide := impl.JobJob{Sources: 3, Tasks: 2, Kind: impl.WinSlide, Size: 20, Step: 7, Late: 10, Tell: impl.AggMost, Piece: true, Least: 6, Room: 4}
	lines := []string{"sources 3", "tasks 2", "windows 2", "size 20", "step 7", "late 10", "tell 4", "piece 1", "least 6", "room 4"}
	if got := impl.JobPrint(slide); !slices.Equal(got, lines) {
		t.Fatalf("%q", got)
	}
	if j, line := impl.JobParse(lines); j != slide || line != 0 {
		t.Fatal(j, line)
	}
}

func TestP64ParseOfPrint(t *testing.T) {
	r := fixed()
	jobs := windowJobs()
	for range 10000 {
		jobs = append(jobs, anyJob(r))
	}
	for _, j := range jobs {
		lines := impl.JobPrint(j)
		if len(lines) != 10 {
			t.Fatalf("%v: %q", j, lines)
		}
		if got, line := impl.JobParse(lines); got != j || line != 0 {
			t.Fatalf("%v: %q reads as %v, line %d", j, lines, got, line)
		}
	}
}

func TestP64PrintOfAJobThatIsNotOk(t *testing.T) {
	for _, j := range brokenJobs() {
		if got := impl.JobPrint(j); len(got) != 0 {
			t.Fatalf("%v: %q", j, got)
		}
	}
}

// wrongLines is lines that are wrong at the place of one that is right, by themselves.
func wrongLines(word, number string) []string {
	right := word + " " + number
	lines := []string{
		"", " ", word, word + " ", number, " " + number, right + " ", " " + right, word + "  " + number, right + " 0", right + " " + number, right + "\n", right + "\x00", "\t" + right, word + "\t" + number, word + number, word + "=" + number, word + "\u00a0" + number,
		word + " 0" + number, word + " 00", word + " -0", word + " -01", word + " +" + number, word + " +0", word + " --1", word + " - 1", word + " 1-", word + " -", word + " +",
		word + " 12345678", word + " -12345678", word + " 10000000", word + " 99999999", word + " -10000000", word + " 00000001", word + " 18446744073709551617", word + " 9223372036854775808", word + " -9223372036854775809", word + " 4294967297", word + " " + strings.Repeat("9", 1<<12), word + " " + strings.Repeat("0", 100) + "1",
		word + " x", word + " one", word + " 1.0", word + " 1e0", word + " 0x1", word + " 0b1", word + " 1_0", word + " ١", word + " １", word + " \xff", "\xff\xfe", "\x00", word + "\xff " + number,
		strings.ToUpper(right), "s" + right, word + "s " + number, word[1:] + " " + number, word[:len(word)-1] + " " + number, "job " + number, "none", "-", "0",
	}
	for _, other := range words {
		if other != word {
			lines = append(lines, other+" "+number)
		}
	}
	if word == "piece" {
		lines = append(lines, "piece 2", "piece -1", "piece 10", "piece 11", "piece 9999999", "piece true", "piece false", "piece yes")
	}
	return lines
}

func TestP64EachLineWrongByItself(t *testing.T) {
	for at := 1; at <= 10; at++ {
		word, number, _ := strings.Cut(plainLines(nil)[at-1], " ")
		for _, wrong := range wrongLines(word, number) {
			lines := plainLines(map[int]string{at: wrong})
			if j, line := impl.JobParse(lines); j != (impl.JobJob{}) || line != at {
				t.Errorf("%q: %v, line %d, not %d", lines, j, line, at)
			}
			if j, line := impl.JobParse(lines[:at]); j != (impl.JobJob{}) || line != at {
				t.Errorf("%q: %v, line %d, not %d", lines[:at], j, line, at)
			}
			checkLines(t, lines)
		}
	}
}

func TestP64SeveralLinesWrong(t *testing.T) {
	for _, c := range []struct {
		lines []string
		line  int
	}{
		{plainLines(map[int]string{3: "windows x", 7: "tell x"}), 3},
		{plainLines(map[int]string{1: "x", 10: "x"}), 1},
		{plainLines(map[int]string{1: "tasks 1", 2: "sources 2"}), 1},
		{plainLines(map[int]string{9: "room 3", 10: "least -9"}), 9},
		{plainLines(map[int]string{1: "sources 9", 4: "size x"}), 4},
		{plainLines(map[int]string{1: "sources 9", 8: "piece 2"}), 8},
		{plainLines(map[int]string{8: "piece 2", 10: "room 9"}), 8},
		{append(plainLines(map[int]string{5: "step  0"}), "more 1"), 5},
		{append(plainLines(map[int]string{10: "room"}), "more 1", "more 2"), 10},
		{slices.Repeat([]string{"x"}, 3000), 1},
		{plainLines(map[int]string{2: "tasks 1", 3: "tasks 1"})[:5], 3},
		{append(plainLines(nil)[:4], "", "late 4", "x"), 5},
		{plainLines(nil)[1:], 1},
		{append(plainLines(nil)[:3], plainLines(nil)[4:]...), 4},
		{append([]string{""}, plainLines(nil)...), 1},
	} {
		if j, line := impl.JobParse(c.lines); j != (impl.JobJob{}) || line != c.line {
			t.Errorf("%q: %v, line %d, not %d", c.lines, j, line, c.line)
		}
	}
}

func TestP64MoreAndFewerLines(t *testing.T) {
	for n := 0; n < 10; n++ {
		if j, line := impl.JobParse(plainLines(nil)[:n]); j != (impl.JobJob{}) || line != n+1 {
			t.Errorf("%d lines: %v, line %d", n, j, line)
		}
	}
	if j, line := impl.JobParse(nil); j != (impl.JobJob{}) || line != 1 {
		t.Errorf("no lines: %v, line %d", j, line)
	}
	for _, more := range [][]string{{""}, {"room 3"}, {"more 1"}, {"\xff"}, {"x", "y"}, {"sources 2", "tasks 1", "windows 3"}, plainLines(nil), slices.Repeat([]string{""}, 3000)} {
		if j, line := impl.JobParse(append(plainLines(nil), more...)); j != (impl.JobJob{}) || line != 11 {
			t.Errorf("and %d more: %v, line %d", len(more), j, line)
		}
	}
}

func TestP64TenLinesOfAJobThatIsNotOk(t *testing.T) {
	for _, other := range []map[int]string{
		{1: "sources 0"}, {1: "sources 4"}, {1: "sources -1"}, {1: "sources 9999999"}, {1: "sources -9999999"}, {2: "tasks 0"}, {2: "tasks 3"}, {3: "windows 0"}, {3: "windows 4"}, {3: "windows 2"},
		{4: "size 0"}, {4: "size 21"}, {4: "size -5"}, {5: "step 1"}, {5: "step 5"}, {5: "step -1"}, {3: "windows 1", 5: "step 1"}, {3: "windows 2", 5: "step 1"}, {3: "windows 2", 5: "step 6"},
		{6: "late -1"}, {6: "late 21"}, {7: "tell 0"}, {7: "tell 5"}, {9: "least -10"}, {9: "least 10"}, {10: "room 0"}, {10: "room 5"}, {10: "room 1000000"}, {1: "sources 4", 10: "room 5"},
	} {
		lines := plainLines(other)
		if j, line := impl.JobParse(lines); j != (impl.JobJob{}) || line != 11 {
			t.Errorf("%q: %v, line %d", lines, j, line)
		}
		// Fewer lines, and none of them wrong by itself: it does not matter what the job would be.
		if j, line := impl.JobParse(lines[:9]); j != (impl.JobJob{}) || line != 10 {
			t.Errorf("%q: %v, line %d", lines[:9], j, line)
		}
	}
}

func TestP64LinesNear(t *testing.T) {
	for at := 1; at <= 10; at++ {
		for _, line := range near(plainLines(nil)[at-1]) {
			checkLines(t, plainLines(map[int]string{at: line}))
		}
	}
}

func TestP64LinesFar(t *testing.T) {
	r := fixed()
	for range 20000 {
		lines := impl.JobPrint(anyJob(r))
		for range r.Intn(3) {
			at := r.Intn(10)
			switch r.Intn(4) {
			case 0:
				lines[at] = anyText(r)
			case 1:
				lines[at] = fmt.Sprintf("%s %d", words[at], pick(r, edges))
			case 2:
				lines[at] = fmt.Sprintf("%s %d", words[at], r.Intn(12)-2)
			case 3:
				lines[at] = pick(r, lines)
			}
		}
		switch r.Intn(8) {
		case 0:
			lines = lines[:r.Intn(10)]
		case 1:
			lines = append(lines, anyText(r))
		}
		checkLines(t, lines)
	}
}

func TestJobsAnswerAtEveryArgument(t *testing.T) {
	r := fixed()
	for range 20000 {
		j := anyNumbersJob(r)
		n := pick(r, edges)
		var lines []string
		for range r.Intn(13) {
			lines = append(lines, anyText(r))
		}
		quiet(t, []any{j, n, lines}, func() {
			impl.JobOk(j)
			impl.WinOf(j, n)
			impl.JobTask(j, n)
			impl.JobPrint(j)
			impl.JobParse(lines)
		})
	}
}

func TestJobParseWritesNothingIntoItsArgument(t *testing.T) {
	r := fixed()
	for range 2000 {
		lines := impl.JobPrint(anyJob(r))
		if r.Intn(2) == 0 {
			lines[r.Intn(10)] = anyText(r)
		}
		g := guard(lines[:r.Intn(11)], "behind the end")
		impl.JobParse(g.given)
		g.check(t, "JobParse")
	}
}

func TestJobsAnswersAreNewMemory(t *testing.T) {
	r := fixed()
	for range 2000 {
		j, at := anyJob(r), r.Intn(61)
		w, again := impl.WinOf(j, at), impl.WinOf(j, at)
		fill(w, impl.WinWin{Start: 98, End: 99})
		if want := windowsOf(j, at); !slices.Equal(again, want) || !slices.Equal(impl.WinOf(j, at), want) {
			t.Fatal("two answers of WinOf share memory, or something is kept")
		}
		lines, twice := impl.JobPrint(j), impl.JobPrint(j)
		fill(lines, "none")
		if k, line := impl.JobParse(twice); k != j || line != 0 {
			t.Fatal("two answers of JobPrint share memory")
		}
		if !slices.Equal(impl.JobPrint(j), twice) {
			t.Fatal("something is kept between two calls of JobPrint")
		}
	}
}
