package tests

import (
	"math/rand"
	"slices"
	"strings"
	"testing"

	"loop.example/g01062/impl"
)

var goodPaper = impl.Paper{Id: 12, Thick: 80, Tint: 3, Mark: "crown", Laid: true}

var examplePapers = []impl.Paper{
	{Id: 1, Thick: 80, Tint: 3, Mark: "crown", Laid: true},
	{Id: 4, Thick: 100},
	{Id: 6, Thick: 90, Tint: 3, Mark: "anchor"},
	{Id: 9, Thick: 80, Tint: 9, Mark: "crown"},
	{Id: 99, Thick: 300, Tint: 3, Laid: true},
}

// farPositions are none.
var farPositions = append([]int{-8, -7, -4, -1, 8, 9, 12, 16}, farInts...)

// papersOf makes papers with the Ids 1, 2, 3 and so on and some thicknesses.
func papersOf(thicks ...int) []impl.Paper {
	var list []impl.Paper
	for i, thick := range thicks {
		list = append(list, impl.Paper{Id: i + 1, Thick: thick, Tint: 5})
	}
	return list
}

// papersWithMarks makes papers with the Ids 1, 2, 3 and so on and some watermarks.
func papersWithMarks(marks ...string) []impl.Paper {
	list := papersOf(slices.Repeat([]int{70}, len(marks))...)
	for i, mark := range marks {
		list[i].Mark = mark
	}
	return list
}

// goodMarks are words.
func goodMarks() []string {
	return []string{"a", "z", "crown", "laid", "wmk", "um", "t", "abcdefghij", "zzzzzzzzzz", "laidlaid", "wmkwmk"}
}

// noMarks are neither words nor empty.
func noMarks() []string {
	list := []string{
		" ", "  ", "A", "Crown", "cROWN", "crown ", " crown", "cro wn", "crown\n", "crown1", "0", "-", "cro-wn", "crown.",
		"abcdefghijk", "zzzzzzzzzzz", strings.Repeat("a", 4000), strings.Repeat("a", 1000000), "\u00e9", "cr\u00f6wn", "\u0430",
		"\xff", "\x00", "crown\x00",
	}
	for c := range 256 {
		if c < 'a' || c > 'z' {
			b := string([]byte{byte(c)})
			list = append(list, b, b+"own", "cr"+b+"wn", "abcdefghi"+b)
		}
	}
	return list
}

// badPapers are not valid, each in one field.
func badPapers() []impl.Paper {
	var list []impl.Paper
	for _, n := range append([]int{-1, 0, 100}, farInts...) {
		list = append(list, impl.Paper{Id: n, Thick: 80, Tint: 3, Mark: "crown"})
	}
	for _, n := range append([]int{-1, 0, 301}, farInts...) {
		list = append(list, impl.Paper{Id: 12, Thick: n, Tint: 3, Laid: true})
	}
	for _, n := range append([]int{-1, 10}, farInts...) {
		list = append(list, impl.Paper{Id: 12, Thick: 80, Tint: n, Mark: "crown", Laid: true})
	}
	for _, mark := range noMarks() {
		list = append(list, impl.Paper{Id: 12, Thick: 80, Tint: 3, Mark: mark})
	}
	return append(list, impl.Paper{})
}

// badPaperLists are no Papers.
func badPaperLists() [][]impl.Paper {
	lists := [][]impl.Paper{
		papersOf(slices.Repeat([]int{80}, impl.MaxPapers+1)...),
		make([]impl.Paper, 1),
		make([]impl.Paper, 1000000),
		{{Id: 2, Thick: 80}, {Id: 2, Thick: 80}},
		{{Id: 2, Thick: 80}, {Id: 1, Thick: 80}},
		{{Id: 1, Thick: 80}, {Id: 3, Thick: 80}, {Id: 2, Thick: 80}},
		{{Id: 1, Thick: 80}, {Id: 3, Thick: 80}, {Id: 3, Thick: 90}},
	}
	for _, p := range badPapers() {
		lists = append(lists, []impl.Paper{p}, []impl.Paper{{Id: 1, Thick: 80}, p}, []impl.Paper{p, {Id: 99, Thick: 80}})
	}
	return lists
}

// randomPapers makes at most MaxPapers papers.
func randomPapers(r *rand.Rand) []impl.Paper {
	var list []impl.Paper
	thickness := []int{4, 60, 300}[r.Intn(3)]
	id := 0
	for range r.Intn(impl.MaxPapers + 1) {
		id += 1 + r.Intn(9)
		mark := []string{"", "a", "ab", "b", "laid", "crown"}[r.Intn(6)]
		list = append(list, impl.Paper{Id: id, Thick: 1 + r.Intn(thickness), Tint: r.Intn(10), Mark: mark, Laid: r.Intn(2) == 0})
	}
	return list
}

func TestConstantsOfPapers(t *testing.T) {
	if impl.MaxPapers != 10 {
		t.Error("limit", impl.MaxPapers)
	}
}

func TestIsPaper(t *testing.T) {
	for _, p := range []impl.Paper{
		goodPaper, {Id: 1, Thick: 1}, {Id: 99, Thick: 300, Tint: 9, Mark: "zzzzzzzzzz", Laid: true}, {Id: 1, Thick: 300, Laid: true},
	} {
		if !impl.IsPaper(p) {
			t.Error("a paper", p)
		}
	}
	for _, mark := range goodMarks() {
		if !impl.IsPaper(impl.Paper{Id: 12, Thick: 80, Mark: mark}) {
			t.Error("a mark", mark)
		}
	}
	for _, p := range badPapers() {
		if impl.IsPaper(p) {
			t.Errorf("no paper: %d %d %d %.20q", p.Id, p.Thick, p.Tint, p.Mark)
		}
	}
}

func TestArePapers(t *testing.T) {
	for _, l := range [][]impl.Paper{
		nil, {}, {goodPaper}, examplePapers, papersOf(slices.Repeat([]int{80}, impl.MaxPapers)...), papersWithMarks("a", "a", ""),
		{{Id: 1, Thick: 1}, {Id: 99, Thick: 300, Tint: 9}}, {{Id: 98, Thick: 80}, {Id: 99, Thick: 80}},
	} {
		if !impl.ArePapers(l) {
			t.Error("papers", l)
		}
	}
	for i, l := range badPaperLists() {
		if impl.ArePapers(l) {
			t.Error("no papers", i, len(l))
		}
	}
}

// picture is a watermark of four signs: above left and right, below left and right.
type picture [4]byte

func (p picture) mirrored() picture { return picture{p[1], p[0], p[3], p[2]} }

func (p picture) turnedRight() picture { return picture{p[2], p[0], p[3], p[1]} }

// put does what a position tells.
func (p picture) put(position int) picture {
	if position >= 4 {
		p = p.mirrored()
	}
	for range position % 4 {
		p = p.turnedRight()
	}
	return p
}

var upright = picture{'a', 'b', 'c', 'd'}

func join(t *testing.T, a, b int) int {
	t.Helper()
	joined, ok := impl.JoinPositions(a, b)
	if !ok || joined < 0 || joined > 7 {
		t.Fatalf("JoinPositions(%d, %d) = %d, %v", a, b, joined, ok)
	}
	return joined
}

func TestJoinPositions(t *testing.T) {
	for _, x := range [][3]int{
		{0, 0, 0}, {1, 1, 2}, {1, 2, 3}, {2, 2, 0}, {3, 1, 0}, {3, 2, 1}, {3, 3, 2},
		// Unreversed joined with reversed, and the other way round.
		{0, 4, 4}, {1, 4, 7}, {2, 4, 6}, {3, 4, 5}, {1, 5, 4}, {3, 7, 4}, {1, 7, 6},
		{4, 0, 4}, {4, 1, 5}, {4, 2, 6}, {4, 3, 7}, {5, 1, 6}, {7, 1, 4}, {7, 3, 6},
		// Reversed joined with reversed.
		{4, 4, 0}, {5, 5, 0}, {6, 6, 0}, {7, 7, 0}, {4, 5, 1}, {5, 4, 3}, {4, 7, 3}, {7, 4, 1}, {5, 7, 2}, {7, 5, 2},
	} {
		if got := join(t, x[0], x[1]); got != x[2] {
			t.Errorf("JoinPositions(%d, %d) = %d, not %d", x[0], x[1], got, x[2])
		}
	}
}

func TestJoinedPositionsDoOneBehindTheOther(t *testing.T) {
	for a := range 8 {
		for b := range 8 {
			if joined := join(t, a, b); upright.put(joined) != upright.put(a).put(b) {
				t.Errorf("JoinPositions(%d, %d) = %d", a, b, joined)
			}
		}
	}
}

func TestJoiningDoesNotDependOnGroups(t *testing.T) {
	for a := range 8 {
		for b := range 8 {
			for c := range 8 {
				if first, last := join(t, join(t, a, b), c), join(t, a, join(t, b, c)); first != last {
					t.Errorf("%d, %d and %d: %d and %d", a, b, c, first, last)
				}
			}
		}
	}
}

func TestUprightChangesNothing(t *testing.T) {
	for a := range 8 {
		if before, behind := join(t, 0, a), join(t, a, 0); before != a || behind != a {
			t.Error("joined with upright", a, before, behind)
		}
	}
}

func TestUndoPosition(t *testing.T) {
	for a, want := range []int{0, 3, 2, 1, 4, 5, 6, 7} {
		undo, ok := impl.UndoPosition(a)
		if !ok || undo != want {
			t.Errorf("UndoPosition(%d) = %d, %v", a, undo, ok)
		}
		if behind, before := join(t, a, undo), join(t, undo, a); behind != 0 || before != 0 {
			t.Error("undone", a, behind, before)
		}
		for other := range 8 {
			if other != undo && (join(t, a, other) == 0 || join(t, other, a) == 0) {
				t.Error("also undone", a, other)
			}
		}
	}
}

func TestPositionName(t *testing.T) {
	for a, want := range []string{
		"upright", "right", "inverted", "left",
		"reversed upright", "reversed right", "reversed inverted", "reversed left",
	} {
		if got, ok := impl.PositionName(a); !ok || got != want {
			t.Errorf("PositionName(%d) = %q, %v", a, got, ok)
		}
	}
}

func TestSeenFromBack(t *testing.T) {
	for a, want := range []int{4, 7, 6, 5, 0, 3, 2, 1} {
		got, ok := impl.SeenFromBack(a)
		if !ok || got != want {
			t.Errorf("SeenFromBack(%d) = %d, %v", a, got, ok)
		}
		if upright.put(got) != upright.put(a).mirrored() {
			t.Error("not the mirrored picture", a, got)
		}
		if again, ok := impl.SeenFromBack(got); !ok || again != a {
			t.Error("turned over twice", a, again, ok)
		}
	}
}

func TestNumbersThatAreNoPositions(t *testing.T) {
	for _, n := range farPositions {
		for a := range 8 {
			if got, ok := impl.JoinPositions(n, a); ok || got != 0 {
				t.Errorf("JoinPositions(%d, %d) = %d, %v", n, a, got, ok)
			}
			if got, ok := impl.JoinPositions(a, n); ok || got != 0 {
				t.Errorf("JoinPositions(%d, %d) = %d, %v", a, n, got, ok)
			}
		}
		if got, ok := impl.JoinPositions(n, n); ok || got != 0 {
			t.Errorf("JoinPositions(%d, %d) = %d, %v", n, n, got, ok)
		}
		if got, ok := impl.UndoPosition(n); ok || got != 0 {
			t.Errorf("UndoPosition(%d) = %d, %v", n, got, ok)
		}
		if got, ok := impl.PositionName(n); ok || got != "" {
			t.Errorf("PositionName(%d) = %q, %v", n, got, ok)
		}
		if got, ok := impl.SeenFromBack(n); ok || got != 0 {
			t.Errorf("SeenFromBack(%d) = %d, %v", n, got, ok)
		}
	}
}

func TestMatchPapers(t *testing.T) {
	for _, x := range []struct {
		list             []impl.Paper
		thick, off, tint int
		want             []int
	}{
		{examplePapers, 90, 10, -1, []int{1, 4, 6, 9}},
		{examplePapers, 90, 10, 3, []int{1, 6}},
		{examplePapers, 90, 10, 0, []int{4}},
		{examplePapers, 90, 10, 9, []int{9}},
		{examplePapers, 90, 10, 1, nil},
		// The error is met exactly from both sides, or exceeded by one.
		{examplePapers, 90, 9, -1, []int{6}},
		{examplePapers, 91, 10, -1, []int{4, 6}},
		{examplePapers, 89, 10, -1, []int{1, 6, 9}},
		{examplePapers, 80, 0, -1, []int{1, 9}},
		{examplePapers, 81, 0, -1, nil},
		{papersOf(50, 100, 150), 100, 50, -1, []int{1, 2, 3}},
		{papersOf(49, 100, 151), 100, 50, 5, []int{2}},
		{papersOf(1, 51, 52), 1, 50, -1, []int{1, 2}},
		{papersOf(249, 250, 300), 300, 50, -1, []int{2, 3}},
		{papersOf(1, 2), 1, 0, -1, []int{1}},
		{papersOf(299, 300), 300, 0, -1, []int{2}},
		{papersOf(slices.Repeat([]int{7}, 10)...), 7, 0, 5, []int{1, 2, 3, 4, 5, 6, 7, 8, 9, 10}},
		{nil, 90, 10, -1, nil},
		{[]impl.Paper{}, 300, 50, 9, nil},
	} {
		if got, ok := impl.MatchPapers(x.list, x.thick, x.off, x.tint); !ok || !slices.Equal(got, x.want) {
			t.Errorf("MatchPapers(%v, %d, %d, %d) = %v, %v", x.list, x.thick, x.off, x.tint, got, ok)
		}
	}
}

func TestMatchPapersTakesJustTheNearOnes(t *testing.T) {
	r := rand.New(rand.NewSource(31))
	for range 5000 {
		list := randomPapers(r)
		thick, off, tint := 1+r.Intn([]int{5, 70, 300}[r.Intn(3)]), r.Intn(51), r.Intn(11)-1
		var want []int
		for _, p := range list {
			far := p.Thick > thick+off || thick > p.Thick+off
			if !far && (tint < 0 || p.Tint == tint) {
				want = append(want, p.Id)
			}
		}
		if got, ok := impl.MatchPapers(list, thick, off, tint); !ok || !slices.Equal(got, want) {
			t.Fatalf("MatchPapers(%v, %d, %d, %d) = %v, %v, not %v", list, thick, off, tint, got, ok, want)
		}
	}
}

func TestMatchPapersRefusesNumbers(t *testing.T) {
	refused := func(thick, off, tint int) {
		t.Helper()
		if got, ok := impl.MatchPapers(examplePapers, thick, off, tint); ok || len(got) != 0 {
			t.Errorf("MatchPapers for %d, %d, %d = %v, %v", thick, off, tint, got, ok)
		}
	}
	for _, n := range farInts {
		refused(n, 10, -1)
		refused(90, n, -1)
		refused(90, 10, n)
		refused(n, n, n)
	}
	for _, thick := range []int{-1, 0, 301} {
		refused(thick, 50, -1)
	}
	for _, off := range []int{-1, 51} {
		refused(90, off, -1)
	}
	for _, tint := range []int{-3, -2, 10} {
		refused(90, 10, tint)
	}
}

func TestPapersWith(t *testing.T) {
	for _, x := range []struct {
		list []impl.Paper
		mark string
		want []int
	}{
		{examplePapers, "crown", []int{1, 9}},
		{examplePapers, "anchor", []int{6}},
		{examplePapers, "", []int{4, 99}},
		{examplePapers, "laid", nil},
		{examplePapers, "crow", nil},
		{examplePapers, "crowns", nil},
		{papersWithMarks("wmk", "laid", "wmk"), "wmk", []int{1, 3}},
		{papersWithMarks("wmk", "laid", "wmk"), "laid", []int{2}},
		{papersWithMarks("wmk", "laid", "wmk"), "", nil},
		{papersWithMarks("zzzzzzzzzz", "", "z"), "zzzzzzzzzz", []int{1}},
		{papersOf(slices.Repeat([]int{80}, 10)...), "", []int{1, 2, 3, 4, 5, 6, 7, 8, 9, 10}},
		{nil, "", nil},
		{nil, "crown", nil},
	} {
		if got, ok := impl.PapersWith(x.list, x.mark); !ok || !slices.Equal(got, x.want) {
			t.Errorf("PapersWith(%v, %q) = %v, %v", x.list, x.mark, got, ok)
		}
	}
	for _, mark := range noMarks() {
		if got, ok := impl.PapersWith(examplePapers, mark); ok || len(got) != 0 {
			t.Errorf("PapersWith %.20q = %v, %v", mark, got, ok)
		}
	}
}

func TestNearestPaper(t *testing.T) {
	for _, x := range []struct {
		list          []impl.Paper
		thick, id, by int
	}{
		{examplePapers, 91, 6, 1},
		{examplePapers, 96, 4, 4},
		{examplePapers, 300, 99, 0},
		{examplePapers, 1, 1, 79},
		// Several are equally near: the first one, on whichever side it is.
		{examplePapers, 80, 1, 0},
		{examplePapers, 85, 1, 5},
		{examplePapers, 95, 4, 5},
		{examplePapers, 200, 4, 100},
		{papersOf(120, 80), 100, 1, 20},
		{papersOf(80, 120), 100, 1, 20},
		{papersOf(1, 120, 80, 80), 100, 2, 20},
		{papersOf(100, 100, 100), 100, 1, 0},
		{papersOf(101, 99, 100), 100, 3, 0},
		{papersOf(300), 1, 1, 299},
		{papersOf(1), 300, 1, 299},
		{papersOf(300, 299), 1, 2, 298},
		{papersOf(1), 1, 1, 0},
		{papersOf(10, 9, 8, 7, 6, 5, 4, 3, 2, 1), 1, 10, 0},
	} {
		if id, by, ok := impl.NearestPaper(x.list, x.thick); !ok || id != x.id || by != x.by {
			t.Errorf("NearestPaper(%v, %d) = %d, %d, %v", x.list, x.thick, id, by, ok)
		}
	}
}

func TestNearestPaperIsTheNearest(t *testing.T) {
	r := rand.New(rand.NewSource(32))
	for range 5000 {
		list := randomPapers(r)
		thick := 1 + r.Intn([]int{5, 70, 300}[r.Intn(3)])
		wantId, wantBy := 0, 0
		for by := 0; by < 300 && wantId == 0; by++ {
			i := slices.IndexFunc(list, func(p impl.Paper) bool { return p.Thick == thick+by || p.Thick == thick-by })
			if i >= 0 {
				wantId, wantBy = list[i].Id, by
			}
		}
		id, by, ok := impl.NearestPaper(list, thick)
		if ok != (len(list) > 0) || id != wantId || by != wantBy {
			t.Fatalf("NearestPaper(%v, %d) = %d, %d, %v, not %d, %d", list, thick, id, by, ok, wantId, wantBy)
		}
	}
}

func TestNearestPaperFails(t *testing.T) {
	for _, list := range [][]impl.Paper{nil, {}} {
		if id, by, ok := impl.NearestPaper(list, 90); ok || id != 0 || by != 0 {
			t.Error("of no papers", id, by, ok)
		}
	}
	for _, thick := range append([]int{-1, 0, 301}, farInts...) {
		if id, by, ok := impl.NearestPaper(examplePapers, thick); ok || id != 0 || by != 0 {
			t.Errorf("NearestPaper for %d = %d, %d, %v", thick, id, by, ok)
		}
	}
}

func TestMarkNames(t *testing.T) {
	for _, x := range []struct {
		marks, want []string
	}{
		{nil, nil},
		{[]string{""}, nil},
		{[]string{"", "", ""}, nil},
		{[]string{"crown"}, []string{"crown"}},
		{[]string{"crown", "", "crown"}, []string{"crown"}},
		{[]string{"wmk", "laid", "", "anchor"}, []string{"anchor", "laid", "wmk"}},
		{[]string{"b", "ab", "a", "b", "abc", "a"}, []string{"a", "ab", "abc", "b"}},
		{[]string{"aa", "z", "aaaaaaaaaa", "y", "x", "w", "v", "u", "t", "s"},
			[]string{"aa", "aaaaaaaaaa", "s", "t", "u", "v", "w", "x", "y", "z"}},
	} {
		if got, ok := impl.MarkNames(papersWithMarks(x.marks...)); !ok || !slices.Equal(got, x.want) {
			t.Errorf("MarkNames of %q = %q, %v", x.marks, got, ok)
		}
	}
	if got, ok := impl.MarkNames(examplePapers); !ok || !slices.Equal(got, []string{"anchor", "crown"}) {
		t.Errorf("MarkNames = %q, %v", got, ok)
	}
}

func TestPaperText(t *testing.T) {
	for p, want := range map[impl.Paper]string{
		{Id: 1, Thick: 80, Tint: 3, Mark: "crown", Laid: true}: "1 80um t3 laid wmk crown",
		{Id: 4, Thick: 100}:                               "4 100um t0",
		{Id: 4, Thick: 100, Laid: true}:                   "4 100um t0 laid",
		{Id: 12, Thick: 9, Tint: 5, Mark: "anchor"}:       "12 9um t5 wmk anchor",
		{Id: 99, Thick: 300, Tint: 9, Mark: "zzzzzzzzzz"}: "99 300um t9 wmk zzzzzzzzzz",
		{Id: 1, Thick: 1, Mark: "a"}:                      "1 1um t0 wmk a",
		// A watermark that has the name of a part of the text.
		{Id: 7, Thick: 70, Tint: 1, Mark: "laid"}:             "7 70um t1 wmk laid",
		{Id: 7, Thick: 70, Tint: 1, Mark: "laid", Laid: true}: "7 70um t1 laid wmk laid",
		{Id: 7, Thick: 70, Tint: 1, Mark: "wmk"}:              "7 70um t1 wmk wmk",
		{Id: 7, Thick: 70, Tint: 1, Mark: "wmk", Laid: true}:  "7 70um t1 laid wmk wmk",
		{Id: 7, Thick: 70, Tint: 1, Mark: "um", Laid: true}:   "7 70um t1 laid wmk um",
		{Id: 7, Thick: 70, Tint: 1, Mark: "umt"}:              "7 70um t1 wmk umt",
	} {
		if got, ok := impl.PaperText(p); !ok || got != want {
			t.Errorf("PaperText(%v) = %q, %v", p, got, ok)
		}
		if got, ok := impl.ParsePaper(want); !ok || got != p {
			t.Errorf("ParsePaper(%q) = %v, %v", want, got, ok)
		}
	}
	for _, p := range badPapers() {
		if got, ok := impl.PaperText(p); ok || got != "" {
			t.Errorf("PaperText(%d %d %d %.20q) = %.40q, %v", p.Id, p.Thick, p.Tint, p.Mark, got, ok)
		}
	}
}

func checkRoundTrip(t *testing.T, p impl.Paper) {
	t.Helper()
	text, ok := impl.PaperText(p)
	if back, fine := impl.ParsePaper(text); !ok || !fine || back != p {
		t.Fatalf("%v: %q, %v, %v, %v", p, text, ok, back, fine)
	}
}

func TestPapersAreRecoveredFromTheirTexts(t *testing.T) {
	marks := append(goodMarks(), "")
	for i := range 300 {
		for _, laid := range []bool{false, true} {
			for _, mark := range marks {
				checkRoundTrip(t, impl.Paper{Id: 1 + i%99, Thick: 1 + i, Tint: i % 10, Mark: mark, Laid: laid})
			}
		}
	}
	r := rand.New(rand.NewSource(33))
	for range 20000 {
		mark := make([]byte, r.Intn(11))
		for i := range mark {
			mark[i] = byte('a' + r.Intn(26))
		}
		checkRoundTrip(t, impl.Paper{
			Id: 1 + r.Intn(99), Thick: 1 + r.Intn(300), Tint: r.Intn(10), Mark: string(mark), Laid: r.Intn(2) == 0,
		})
	}
}

func TestParsePaperRefuses(t *testing.T) {
	for _, s := range []string{
		"", " ", "um t", " um t", " um t wmk ", " laid", " wmk ", "laid", "wmk crown", "1", "1 ", "1 80", "1 80um", "1 80um ",
		"1 80um t", "1 80um t wmk crown", "1 80um t laid", "1 80um 3", "1 80 t3", "1 80umt3", "1 80um  t3", "1  80um t3",
		"1 80 um t3", "1 80um t 3", "1 80um T3", "1 80UM t3", "1 80mm t3", "180um t3", " 80um t3", "80um t3", " 1 80um t3",
		"1 80um t3 ", "1 80um t3\n", "1 80um t3  laid", "1 80um t3 laid ", "1 80um t3laid", "1 80um t3 Laid", "1 80um t3 lai",
		"1 80um t3 laidd", "1 80um t3 laid laid", "1 80um t3 wmk", "1 80um t3 wmk ", "1 80um t3  wmk crown",
		"1 80um t3 wmk  crown", "1 80um t3 wmk crown ", "1 80um t3 crown", "1 80um t3 Wmk crown", "1 80um t3 wmkcrown",
		"1 80um t3 wmk crown laid", "1 80um t3 wmk crown wmk crown", "1 80um t3 wmk wmk crown", "1 80um t3 wmk wmk wmk",
		"1 80um t3 laid wmk", "1 80um t3 laid wmk ", "1 80um t3 laidwmk crown", "1 80um t3 laid laid wmk crown",
		"1 80um t3 laid wmk laid laid", "1 80um t3 wmk laid laid", "1 80um t3 wmk Crown", "1 80um t3 wmk crown1",
		"1 80um t3 wmk abcdefghijk", "1 80um t3 wmk cr\u00f6wn", "1 80um t3 wmk \xff", "1 80um t3 wmk crown\x00",
		"0 80um t3", "-1 80um t3", "+1 80um t3", "01 80um t3", "100 80um t3", "x 80um t3", "1. 80um t3", "1: 80um t3",
		"1 0um t3", "1 -80um t3", "1 +80um t3", "1 080um t3", "1 301um t3", "1 xum t3", "1 um t3", "1 8 0um t3", "1 80um t3um t3",
		"1 80um t10", "1 80um t-1", "1 80um t+3", "1 80um t03", "1 80um t-0", "1 80um tx", "1 80um t3x", "1 80um t3 3",
		"1 18446744073709551696um t3", "18446744073709551617 80um t3", "1 80um t\u0663", "1\x0080um t3", "1\t80um t3",
		"1 80um t3 laid wmk crown 1 80um t3 laid wmk crown", strings.Repeat("1", 1000000), strings.Repeat(" wmk ", 300000),
		strings.Repeat(" laid", 300000), strings.Repeat("0", 5000) + "1 80um t3", "1 80um t3 wmk " + strings.Repeat("a", 1000000),
	} {
		if got, ok := impl.ParsePaper(s); ok || got != (impl.Paper{}) {
			t.Errorf("ParsePaper(%.40q) = %v, %v", s, got, ok)
		}
	}
}

func TestParsePaperTakesOnlyWhatPaperTextWrites(t *testing.T) {
	check := func(s string) {
		got, ok := impl.ParsePaper(s)
		text, fine := impl.PaperText(got)
		if ok != fine || ok && text != s || !ok && got != (impl.Paper{}) {
			t.Fatalf("ParsePaper(%q) = %v, %v", s, got, ok)
		}
	}
	for _, good := range []string{"12 80um t3 laid wmk crown", "7 70um t1 wmk laid", "4 100um t0"} {
		changeOneByte(good, check)
	}
}

func TestPapersRefuseListsThatAreNone(t *testing.T) {
	for i, list := range badPaperLists() {
		if l, ok := impl.MatchPapers(list, 80, 50, -1); ok || len(l) != 0 {
			t.Error("MatchPapers", i, l, ok)
		}
		for _, mark := range []string{"", "crown"} {
			if l, ok := impl.PapersWith(list, mark); ok || len(l) != 0 {
				t.Error("PapersWith", i, mark, l, ok)
			}
		}
		if id, by, ok := impl.NearestPaper(list, 80); ok || id != 0 || by != 0 {
			t.Error("NearestPaper", i, id, by, ok)
		}
		if l, ok := impl.MarkNames(list); ok || len(l) != 0 {
			t.Error("MarkNames", i, l, ok)
		}
	}
}

func TestPapersChangeNoArgument(t *testing.T) {
	room := []impl.Paper{
		{Id: 5, Thick: 90, Tint: 9, Mark: "wmk"}, {Id: 6, Thick: 80, Mark: "laid", Laid: true}, {Id: 7, Thick: 90, Mark: "laid"},
		{Id: 8, Thick: 85, Mark: "crown"}, {Id: 2, Thick: -3, Mark: "?"},
	}
	list := room[:3]
	kept := slices.Clone(room)
	if !impl.ArePapers(list) {
		t.Error("papers")
	}
	if l, ok := impl.MatchPapers(list, 85, 5, -1); !ok || !slices.Equal(l, []int{5, 6, 7}) {
		t.Error("matched", l, ok)
	}
	if l, ok := impl.PapersWith(list, "crown"); !ok || len(l) != 0 {
		t.Error("with a mark beyond the length", l, ok)
	}
	if id, by, ok := impl.NearestPaper(list, 85); !ok || id != 5 || by != 5 {
		t.Error("nearest", id, by, ok)
	}
	if l, ok := impl.MarkNames(list); !ok || !slices.Equal(l, []string{"laid", "wmk"}) {
		t.Error("names", l, ok)
	}
	impl.MatchPapers(list, 0, -1, -2)
	impl.PapersWith(list, "?")
	impl.NearestPaper(list, 301)
	impl.MarkNames(room)
	if !slices.Equal(room, kept) {
		t.Error("an argument was changed", room)
	}
}

func TestResultsOfPapersAreNew(t *testing.T) {
	list := slices.Clone(examplePapers)
	names, _ := impl.MarkNames(list)
	ids, _ := impl.MatchPapers(list, 90, 10, -1)
	for i := range names {
		names[i] = "changed"
	}
	for i := range ids {
		ids[i] = -1
	}
	if !slices.Equal(list, examplePapers) {
		t.Error("a changed result changed an argument", list)
	}
	if again, ok := impl.MarkNames(list); !ok || !slices.Equal(again, []string{"anchor", "crown"}) {
		t.Error("a changed result changed what follows", again, ok)
	}
	if again, ok := impl.MatchPapers(list, 90, 10, -1); !ok || !slices.Equal(again, []int{1, 4, 6, 9}) {
		t.Error("a changed result changed what follows", again, ok)
	}
}
