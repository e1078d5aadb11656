package tests

import (
	"math/rand"
	"slices"
	"strings"
	"testing"

	"loop.example/g01062/impl"
)

// at is a row and a column.
type at = [2]int

// block makes a block from its rows.
func block(rows ...string) impl.Block { return impl.Block{Rows: rows} }

// pointSheet makes a sheet of points alone.
func pointSheet(rows, cols int) []string {
	return slices.Repeat([]string{strings.Repeat(".", cols)}, rows)
}

// goodRows are rows of letters and points, of which the largest are as large as a block can be.
func goodRows() [][]string {
	return [][]string{
		{"a"}, {"z"}, {"."}, {"az"}, {".."}, {"a", "."}, {"ab", "cd"}, {"abc"}, {"a", "b", "c"}, {"...", "...", "..."},
		{"abc", "d.f", "xyz"}, {"a.c", "..."}, {".", ".", "."}, {"zzz", "zzz", "zzz"},
	}
}

// badRows are rows of neither blocks nor sheets.
func badRows() [][]string {
	lists := [][]string{
		nil, {}, {""}, {"", ""}, {"", "", ""}, make([]string, 1000000),
		// Rows of unequal length.
		{"a", ""}, {"", "a"}, {"ab", "c"}, {"a", "bc"}, {"ab", "cd", "e"}, {"ab", "c", "de"}, {"a", "bc", "de"}, {"..", "."},
		{"abc", "ab", "abc"}, {"a", "b", "cd"}, {"ab", "cd", ""},
		// Too many rows, or too long ones, also for a sheet.
		slices.Repeat([]string{"a"}, 6), {"abcdef"}, pointSheet(6, 6), pointSheet(6, 1), pointSheet(1, 6), pointSheet(1000000, 1),
		{strings.Repeat("a", 1000000)}, {strings.Repeat(".", 1000000), "."}, {"a", strings.Repeat(".", 1000000)},
		{"\u00e9"}, {"a\u00e9"}, {"\u0430"}, {"\uff0e"}, {"\xff"}, {"a\x00"},
	}
	for c := range 256 {
		if c != '.' && (c < 'a' || c > 'z') {
			b := string([]byte{byte(c)})
			lists = append(lists, []string{b}, []string{b + "a"}, []string{"a" + b}, []string{"ab", "c" + b}, []string{".", b})
		}
	}
	return lists
}

// badBlocks are not valid.
func badBlocks() []impl.Block {
	list := []impl.Block{
		{}, block("abcd"), block("a", "b", "c", "d"), block("...."), block(".", ".", ".", "."),
		{Rows: pointSheet(4, 3)}, {Rows: pointSheet(3, 4)}, {Rows: pointSheet(4, 4)}, {Rows: pointSheet(5, 5)},
	}
	for _, rows := range badRows() {
		list = append(list, impl.Block{Rows: rows})
	}
	return list
}

// badBlockLists are no lists of at most a number of blocks.
func badBlockLists(most int) [][]impl.Block {
	lists := [][]impl.Block{
		slices.Repeat([]impl.Block{block("a")}, most+1),
		slices.Repeat([]impl.Block{block(".")}, most+1),
		make([]impl.Block, 1),
		make([]impl.Block, 1000000),
		slices.Repeat([]impl.Block{block("a")}, 1000000),
	}
	for _, bad := range badBlocks() {
		lists = append(lists, []impl.Block{bad}, []impl.Block{block("a"), bad}, []impl.Block{bad, block("a")},
			[]impl.Block{block("a"), block("b"), bad},
			// Neither of the first two blocks lets the other one fit on one place.
			[]impl.Block{block("abc"), block("d", "e", "f"), bad})
	}
	return lists
}

// lettersAt returns the letters of rows that lie at a place, by their places.
func lettersAt(rows []string, place at) map[at]byte {
	letters := map[at]byte{}
	for i, row := range rows {
		for j := range len(row) {
			if row[j] != '.' {
				letters[at{place[0] + i, place[1] + j}] = row[j]
			}
		}
	}
	return letters
}

// noneDiffers tells whether no letter differs from another one at the same place.
func noneDiffers(letters, others map[at]byte) bool {
	for place, letter := range letters {
		if other, both := others[place]; both && other != letter {
			return false
		}
	}
	return true
}

// laid lays blocks at places of a sheet, or tells that they do not fit.
func laid(sheet []string, blocks []impl.Block, places []at) ([]string, bool) {
	letters := lettersAt(sheet, at{})
	for i, b := range blocks {
		row, col := places[i][0], places[i][1]
		if row < 0 || col < 0 || row+len(b.Rows) > len(sheet) || col+len(b.Rows[0]) > len(sheet[0]) {
			return nil, false
		}
		others := lettersAt(b.Rows, places[i])
		if !noneDiffers(letters, others) {
			return nil, false
		}
		for place, letter := range others {
			letters[place] = letter
		}
	}
	var rows []string
	for i := range sheet {
		line := ""
		for j := range len(sheet[0]) {
			letter, ok := letters[at{i, j}]
			if !ok {
				letter = '.'
			}
			line += string(rune(letter))
		}
		rows = append(rows, line)
	}
	return rows, true
}

// rebuilt is a rebuilding and the sheet that it gives.
type rebuilt struct {
	places []at
	sheet  []string
}

// allRebuildings tries every place of the sheet for every block, the first block's last.
func allRebuildings(rows, cols int, blocks []impl.Block) []rebuilt {
	choices := 1
	for range blocks {
		choices *= rows * cols
	}
	var list []rebuilt
	for n := range choices {
		places := make([]at, len(blocks))
		for i := len(blocks) - 1; i >= 0; i-- {
			place := n % (rows * cols)
			places[i] = at{place / cols, place % cols}
			n /= rows * cols
		}
		if sheet, ok := laid(pointSheet(rows, cols), blocks, places); ok {
			list = append(list, rebuilt{places, sheet})
		}
	}
	return list
}

// randomRows makes rows whose letters are the first ones, and some points.
func randomRows(r *rand.Rand, rows, cols, letters, points int) []string {
	var list []string
	for range rows {
		line := make([]byte, cols)
		for j := range line {
			line[j] = byte('a' + r.Intn(letters))
			if r.Intn(10) < points {
				line[j] = '.'
			}
		}
		list = append(list, string(line))
	}
	return list
}

func randomBlock(r *rand.Rand) impl.Block {
	return impl.Block{Rows: randomRows(r, 1+r.Intn(3), 1+r.Intn(3), 1+r.Intn(3), r.Intn(11))}
}

// cutFrom cuts a block from a sheet, loses some of its letters, and tells where it was.
func cutFrom(r *rand.Rand, sheet []string) (impl.Block, at) {
	rows, cols := 1+r.Intn(min(3, len(sheet))), 1+r.Intn(min(3, len(sheet[0])))
	place := at{r.Intn(len(sheet) - rows + 1), r.Intn(len(sheet[0]) - cols + 1)}
	var b impl.Block
	for i := range rows {
		line := []byte(sheet[place[0]+i][place[1] : place[1]+cols])
		for j := range line {
			if r.Intn(5) == 0 {
				line[j] = '.'
			}
		}
		b.Rows = append(b.Rows, string(line))
	}
	return b, place
}

func TestConstantsOfSheets(t *testing.T) {
	if impl.MaxBlocks != 4 {
		t.Error("limit", impl.MaxBlocks)
	}
}

func TestIsBlock(t *testing.T) {
	for _, rows := range goodRows() {
		if !impl.IsBlock(impl.Block{Rows: rows}) {
			t.Error("a block", rows)
		}
	}
	for rows := 1; rows <= 5; rows++ {
		for cols := 1; cols <= 5; cols++ {
			if got := impl.IsBlock(impl.Block{Rows: pointSheet(rows, cols)}); got != (rows <= 3 && cols <= 3) {
				t.Error("points", rows, cols, got)
			}
		}
	}
	for i, b := range badBlocks() {
		if impl.IsBlock(b) {
			t.Errorf("no block %d: %.40q", i, b.Rows[:min(6, len(b.Rows))])
		}
	}
}

func TestIsSheet(t *testing.T) {
	for _, rows := range append(goodRows(), []string{"abcd"}, []string{"abcde", "fghij", "klmno", "pqrst", "uvwxy"}, []string{"a", ".", "b", ".", "z"}) {
		if !impl.IsSheet(rows) {
			t.Error("a sheet", rows)
		}
	}
	for rows := 1; rows <= 7; rows++ {
		for cols := 1; cols <= 7; cols++ {
			if got := impl.IsSheet(pointSheet(rows, cols)); got != (rows <= 5 && cols <= 5) {
				t.Error("points", rows, cols, got)
			}
		}
	}
	for i, rows := range badRows() {
		if impl.IsSheet(rows) {
			t.Errorf("no sheet %d: %.40q", i, rows[:min(6, len(rows))])
		}
	}
}

func TestLayBlock(t *testing.T) {
	for _, x := range []struct {
		sheet    []string
		b        impl.Block
		row, col int
		want     []string
	}{
		{[]string{".x", ".."}, block("a"), 0, 0, []string{"ax", ".."}},
		{[]string{".x", ".."}, block("ab"), 1, 0, []string{".x", "ab"}},
		{pointSheet(3, 3), block("ab", "cd"), 1, 1, []string{"...", ".ab", ".cd"}},
		// A letter over a point, over the same letter and over another one.
		{[]string{"."}, block("a"), 0, 0, []string{"a"}},
		{[]string{"a"}, block("a"), 0, 0, []string{"a"}},
		{[]string{"b"}, block("a"), 0, 0, nil},
		// A point over a letter, which stays, and over a point.
		{[]string{"a"}, block("."), 0, 0, []string{"a"}},
		{[]string{"."}, block("."), 0, 0, []string{"."}},
		{[]string{"ab", "cd"}, block(".b", "c."), 0, 0, []string{"ab", "cd"}},
		{[]string{"ab", "cd"}, block("..", ".."), 0, 0, []string{"ab", "cd"}},
		{[]string{"a.", ".d"}, block(".b", "c."), 0, 0, []string{"ab", "cd"}},
		{[]string{"a.", ".d"}, block("xb", "c."), 0, 0, nil},
		{[]string{"a.", ".d"}, block(".b", "cx"), 0, 0, nil},
		// A block as large as the sheet, and larger by a row or a column.
		{pointSheet(3, 3), block("abc", "def", "ghi"), 0, 0, []string{"abc", "def", "ghi"}},
		{pointSheet(2, 3), block("abc", "def", "ghi"), 0, 0, nil},
		{pointSheet(3, 2), block("abc", "def", "ghi"), 0, 0, nil},
		{pointSheet(1, 1), block(".", "."), 0, 0, nil},
		{pointSheet(1, 1), block(".."), 0, 0, nil},
		{pointSheet(5, 5), block("a"), 4, 4, []string{".....", ".....", ".....", ".....", "....a"}},
		{pointSheet(5, 5), block("a"), 4, 0, []string{".....", ".....", ".....", ".....", "a...."}},
	} {
		got, ok := impl.LayBlock(x.sheet, x.b, x.row, x.col)
		if ok != (x.want != nil) || !slices.Equal(got, x.want) {
			t.Errorf("LayBlock(%q, %q, %d, %d) = %q, %v", x.sheet, x.b.Rows, x.row, x.col, got, ok)
		}
	}
}

func TestLayBlockAtTheEdges(t *testing.T) {
	sheet := pointSheet(4, 5)
	for _, b := range []impl.Block{block("ab", "cd", "ef"), block("..", "..", ".."), block("..", "a.", "..")} {
		for row := -4; row <= 8; row++ {
			for col := -4; col <= 8; col++ {
				want, within := laid(sheet, []impl.Block{b}, []at{{row, col}})
				if within != (row >= 0 && row <= 1 && col >= 0 && col <= 3) {
					t.Fatal("the test itself", row, col)
				}
				if got, ok := impl.LayBlock(sheet, b, row, col); ok != within || !slices.Equal(got, want) {
					t.Errorf("LayBlock of %q at %d, %d = %q, %v", b.Rows, row, col, got, ok)
				}
			}
		}
		for _, n := range farInts {
			for _, place := range []at{{n, 0}, {0, n}, {n, n}} {
				if got, ok := impl.LayBlock(sheet, b, place[0], place[1]); ok || len(got) != 0 {
					t.Errorf("LayBlock of %q at %v = %q, %v", b.Rows, place, got, ok)
				}
			}
		}
	}
}

func TestBlocksAreLaidAndFitWhereNoLetterDiffers(t *testing.T) {
	r := rand.New(rand.NewSource(41))
	for range 4000 {
		sheet := randomRows(r, 1+r.Intn(5), 1+r.Intn(5), 1+r.Intn(3), r.Intn(11))
		b := randomBlock(r)
		var places []at
		for row := -1; row <= 5; row++ {
			for col := -1; col <= 5; col++ {
				want, fits := laid(sheet, []impl.Block{b}, []at{{row, col}})
				if fits {
					places = append(places, at{row, col})
				}
				if got, ok := impl.LayBlock(sheet, b, row, col); ok != fits || !slices.Equal(got, want) {
					t.Fatalf("LayBlock(%q, %q, %d, %d) = %q, %v, not %q", sheet, b.Rows, row, col, got, ok, want)
				}
			}
		}
		if got, ok := impl.PlacesFor(sheet, b); !ok || !slices.Equal(got, places) {
			t.Fatalf("PlacesFor(%q, %q) = %v, %v, not %v", sheet, b.Rows, got, ok, places)
		}
	}
}

func TestPlacesFor(t *testing.T) {
	for _, x := range []struct {
		sheet []string
		b     impl.Block
		want  []at
	}{
		{[]string{"a.", "b."}, block("a"), []at{{0, 0}, {0, 1}, {1, 1}}},
		{[]string{"a.", "b."}, block("."), []at{{0, 0}, {0, 1}, {1, 0}, {1, 1}}},
		{[]string{"a.", "b."}, block("b", "."), []at{{0, 1}}},
		{[]string{"a.", "b."}, block(".", "b"), []at{{0, 0}, {0, 1}}},
		{[]string{"ab", "cd"}, block("d"), []at{{1, 1}}},
		{[]string{"ab", "cd"}, block("x"), nil},
		{[]string{"ab", "cd"}, block("ab", "cd"), []at{{0, 0}}},
		{[]string{"ab", "cd"}, block(".."), []at{{0, 0}, {1, 0}}},
		{pointSheet(3, 2), block("ab"), []at{{0, 0}, {1, 0}, {2, 0}}},
		{pointSheet(2, 3), block("a", "b"), []at{{0, 0}, {0, 1}, {0, 2}}},
		{pointSheet(4, 4), block("...", "...", "..."), []at{{0, 0}, {0, 1}, {1, 0}, {1, 1}}},
		{pointSheet(1, 1), block("a"), []at{{0, 0}}},
		// A block that is larger than the sheet fits nowhere.
		{pointSheet(1, 1), block(".."), nil},
		{pointSheet(1, 1), block(".", "."), nil},
		{pointSheet(2, 5), block("...", "...", "..."), nil},
		{pointSheet(5, 2), block("...", "...", "..."), nil},
	} {
		if got, ok := impl.PlacesFor(x.sheet, x.b); !ok || !slices.Equal(got, x.want) {
			t.Errorf("PlacesFor(%q, %q) = %v, %v", x.sheet, x.b.Rows, got, ok)
		}
	}
}

func TestFirstRebuilding(t *testing.T) {
	for _, x := range []struct {
		rows, cols int
		blocks     []impl.Block
		places     []at
		sheet      []string
	}{
		{2, 2, []impl.Block{block("ab", "cd"), block("b", "d")}, []at{{0, 0}, {0, 1}}, []string{"ab", "cd"}},
		{1, 3, []impl.Block{block("ab"), block("bc")}, []at{{0, 0}, {0, 1}}, []string{"abc"}},
		{1, 3, []impl.Block{block("bc"), block("ab")}, []at{{0, 1}, {0, 0}}, []string{"abc"}},
		{3, 1, []impl.Block{block("b", "c"), block("a", "b")}, []at{{1, 0}, {0, 0}}, []string{"a", "b", "c"}},
		{2, 2, []impl.Block{block("a"), block("b"), block("c"), block("d")}, []at{{0, 0}, {0, 1}, {1, 0}, {1, 1}}, []string{"ab", "cd"}},
		{2, 2, []impl.Block{block("a"), block("a"), block("a"), block("a")}, []at{{0, 0}, {0, 0}, {0, 0}, {0, 0}}, []string{"a.", ".."}},
		{3, 3, []impl.Block{block("c"), block("ab", "de"), block(".f", "hi")}, []at{{0, 2}, {0, 0}, {1, 1}}, []string{"abc", "def", ".hi"}},
		// The first place of the first block leaves none to the second one.
		{1, 3, []impl.Block{block("a"), block("bc")}, []at{{0, 0}, {0, 1}}, []string{"abc"}},
		{1, 3, []impl.Block{block("a"), block("b.d")}, []at{{0, 1}, {0, 0}}, []string{"bad"}},
		{2, 2, []impl.Block{block("a"), block("b"), block("bc", "d.")}, []at{{1, 1}, {0, 0}, {0, 0}}, []string{"bc", "da"}},
		// Blocks of points alone, and a point over a letter, which stays, before a block that must agree with it.
		{2, 3, []impl.Block{block("..", ".."), block(".")}, []at{{0, 0}, {0, 0}}, []string{"...", "..."}},
		{1, 1, []impl.Block{block("a"), block("."), block("a")}, []at{{0, 0}, {0, 0}, {0, 0}}, []string{"a"}},
		{1, 1, []impl.Block{block("."), block("a"), block(".")}, []at{{0, 0}, {0, 0}, {0, 0}}, []string{"a"}},
		{1, 1, []impl.Block{block("a"), block("."), block("b")}, nil, nil},
		{1, 2, []impl.Block{block("a"), block("."), block("b")}, []at{{0, 0}, {0, 0}, {0, 1}}, []string{"ab"}},
		// No blocks.
		{1, 1, nil, nil, []string{"."}},
		{2, 3, []impl.Block{}, nil, []string{"...", "..."}},
		{5, 5, nil, nil, pointSheet(5, 5)},
		// There is none.
		{1, 2, []impl.Block{block("ab", "cd")}, nil, nil},
		{2, 1, []impl.Block{block("ab", "cd")}, nil, nil},
		{5, 2, []impl.Block{block("...")}, nil, nil},
		{1, 1, []impl.Block{block("a"), block("b")}, nil, nil},
		{2, 2, []impl.Block{block("aa", "aa"), block("b")}, nil, nil},
		{1, 3, []impl.Block{block("a"), block("b"), block("c"), block("d")}, nil, nil},
		{3, 3, []impl.Block{block("abc"), block("d", "e", "f"), block("x"), block("...", "...", "...")}, nil, nil},
	} {
		places, sheet, ok := impl.FirstRebuilding(x.rows, x.cols, x.blocks)
		if ok != (x.sheet != nil) || !slices.Equal(places, x.places) || !slices.Equal(sheet, x.sheet) {
			t.Errorf("FirstRebuilding(%d, %d, %q) = %v, %q, %v", x.rows, x.cols, x.blocks, places, sheet, ok)
		}
	}
}

func TestCountRebuildings(t *testing.T) {
	for _, x := range []struct {
		rows, cols int
		blocks     []impl.Block
		want       int
	}{
		{2, 2, []impl.Block{block("ab", "cd"), block("b", "d")}, 1},
		{2, 3, []impl.Block{block("b", "d")}, 3},
		{5, 5, nil, 1},
		{1, 1, []impl.Block{}, 1},
		{1, 2, []impl.Block{block("a"), block("b")}, 2},
		{1, 2, []impl.Block{block("a"), block("a")}, 4},
		{1, 3, []impl.Block{block("."), block("a"), block("b")}, 18},
		{5, 5, []impl.Block{block("abc", "def", "ghi")}, 9},
		{5, 5, []impl.Block{block("a")}, 25},
		{5, 5, []impl.Block{block("a"), block(".")}, 625},
		// Three points on ten places have just a thousand rebuildings.
		{2, 5, []impl.Block{block("."), block("."), block(".")}, 1000},
		{5, 2, []impl.Block{block("a"), block("a"), block("a")}, 1000},
		// Of more, there are just a thousand.
		{4, 4, []impl.Block{block("."), block("."), block("...", "...", "...")}, 1000},
		{5, 5, []impl.Block{block("."), block("."), block(".")}, 1000},
		{5, 5, []impl.Block{block("."), block("."), block("."), block(".")}, 1000},
		// There is none.
		{1, 1, []impl.Block{block("a"), block("b")}, 0},
		{1, 2, []impl.Block{block("ab", "cd")}, 0},
		{1, 1, []impl.Block{block("..")}, 0},
		{2, 2, []impl.Block{block("."), block("."), block("."), block("...")}, 0},
	} {
		for _, most := range []int{1, 2, x.want - 1, x.want, x.want + 1, 999, 1000} {
			if most < 1 || most > 1000 {
				continue
			}
			if got, ok := impl.CountRebuildings(x.rows, x.cols, x.blocks, most); !ok || got != min(most, x.want) {
				t.Errorf("CountRebuildings(%d, %d, %q, %d) = %d, %v", x.rows, x.cols, x.blocks, most, got, ok)
			}
		}
	}
}

func TestFullestRebuilding(t *testing.T) {
	for _, x := range []struct {
		rows, cols int
		blocks     []impl.Block
		sheet      []string
		points     int
	}{
		{1, 3, []impl.Block{block("a"), block("b")}, []string{"ab."}, 1},
		{2, 2, []impl.Block{block("ab", "cd"), block("b", "d")}, []string{"ab", "cd"}, 0},
		// Of several with equally few points the first one is told, of which the sheet need not be the first.
		{1, 2, []impl.Block{block("b"), block("a")}, []string{"ba"}, 0},
		{1, 3, []impl.Block{block("a")}, []string{"a.."}, 2},
		{2, 2, []impl.Block{block("a"), block("a")}, []string{"aa", ".."}, 2},
		{3, 1, []impl.Block{block("c"), block("b"), block("a")}, []string{"c", "b", "a"}, 0},
		{2, 2, []impl.Block{block("z"), block("a", "b")}, []string{"za", ".b"}, 1},
		// The first rebuilding leaves more points than a later one.
		{1, 4, []impl.Block{block("aa"), block("aa")}, []string{"aaaa"}, 0},
		{1, 5, []impl.Block{block("a.a"), block("a.a")}, []string{"aaaa."}, 1},
		{1, 3, []impl.Block{block("a"), block("a"), block("a")}, []string{"aaa"}, 0},
		{1, 4, []impl.Block{block("a."), block("a.")}, []string{"aa.."}, 2},
		{1, 3, []impl.Block{block(".a"), block(".a")}, []string{".aa"}, 1},
		{5, 5, []impl.Block{block("aaa", "aaa", "aaa"), block("aaa", "aaa", "aaa")}, []string{"aaa..", "aaa..", "aaaaa", "..aaa", "..aaa"}, 8},
		// Points over letters, which stay, and blocks of points alone.
		{1, 1, []impl.Block{block("a"), block(".")}, []string{"a"}, 0},
		{2, 3, []impl.Block{block("."), block(".."), block(".", ".")}, pointSheet(2, 3), 6},
		{1, 2, []impl.Block{block("ab"), block(".."), block("..")}, []string{"ab"}, 0},
		// No blocks.
		{1, 1, nil, []string{"."}, 1},
		{3, 4, []impl.Block{}, pointSheet(3, 4), 12},
		{5, 5, nil, pointSheet(5, 5), 25},
		// There is none.
		{1, 1, []impl.Block{block("a"), block("b")}, nil, 0},
		{1, 2, []impl.Block{block("ab", "cd")}, nil, 0},
		{4, 1, []impl.Block{block("..")}, nil, 0},
		{2, 5, []impl.Block{block("."), block("."), block(".", ".", ".")}, nil, 0},
	} {
		sheet, points, ok := impl.FullestRebuilding(x.rows, x.cols, x.blocks)
		if ok != (x.sheet != nil) || !slices.Equal(sheet, x.sheet) || points != x.points {
			t.Errorf("FullestRebuilding(%d, %d, %q) = %q, %d, %v", x.rows, x.cols, x.blocks, sheet, points, ok)
		}
	}
}

// checkRebuildings compares what is told of rebuildings with a search of them all.
func checkRebuildings(t *testing.T, rows, cols int, blocks []impl.Block) {
	t.Helper()
	all := allRebuildings(rows, cols, blocks)
	first := rebuilt{}
	if len(all) > 0 {
		first = all[0]
	}
	if places, sheet, ok := impl.FirstRebuilding(rows, cols, blocks); ok != (len(all) > 0) || !slices.Equal(places, first.places) || !slices.Equal(sheet, first.sheet) {
		t.Fatalf("FirstRebuilding(%d, %d, %q) = %v, %q, %v, not %v", rows, cols, blocks, places, sheet, ok, first)
	}
	for _, most := range []int{1, len(all) - 1, len(all), len(all) + 1, 999, 1000} {
		if most < 1 || most > 1000 {
			continue
		}
		if got, ok := impl.CountRebuildings(rows, cols, blocks, most); !ok || got != min(most, len(all)) {
			t.Fatalf("CountRebuildings(%d, %d, %q, %d) = %d, %v of %d", rows, cols, blocks, most, got, ok, len(all))
		}
	}
	if len(blocks) > 3 {
		return
	}
	pointsOf := func(x rebuilt) int { return strings.Count(strings.Join(x.sheet, ""), ".") }
	want, fewest := rebuilt{}, 0
	if len(all) > 0 {
		want = slices.MinFunc(all, func(x, y rebuilt) int { return pointsOf(x) - pointsOf(y) })
		fewest = pointsOf(want)
	}
	if sheet, points, ok := impl.FullestRebuilding(rows, cols, blocks); ok != (len(all) > 0) || !slices.Equal(sheet, want.sheet) || points != fewest {
		t.Fatalf("FullestRebuilding(%d, %d, %q) = %q, %d, %v, not %q, %d", rows, cols, blocks, sheet, points, ok, want.sheet, fewest)
	}
}

// randomSize makes numbers of rows and columns, and a number of blocks that can all be tried there.
func randomSize(r *rand.Rand) (rows, cols, count int) {
	rows, cols = 1+r.Intn(5), 1+r.Intn(5)
	switch {
	case rows*cols <= 6:
		return rows, cols, r.Intn(5)
	case rows*cols <= 10:
		return rows, cols, r.Intn(4)
	}
	return rows, cols, r.Intn(3)
}

func TestRebuildingsAreThoseOfASearchOfAll(t *testing.T) {
	r := rand.New(rand.NewSource(42))
	for range 1500 {
		rows, cols, count := randomSize(r)
		var blocks []impl.Block
		for range count {
			blocks = append(blocks, randomBlock(r))
		}
		checkRebuildings(t, rows, cols, blocks)
	}
}

func TestRebuildingsOfBlocksThatWereCut(t *testing.T) {
	r := rand.New(rand.NewSource(43))
	for range 1500 {
		rows, cols, count := randomSize(r)
		whole := randomRows(r, rows, cols, 1+r.Intn(4), r.Intn(4))
		var blocks []impl.Block
		for range count {
			b, _ := cutFrom(r, whole)
			blocks = append(blocks, b)
		}
		checkRebuildings(t, rows, cols, blocks)
	}
}

func TestEachBlockFitsOnTheSheetOfItsRebuilding(t *testing.T) {
	r := rand.New(rand.NewSource(44))
	for range 3000 {
		whole := randomRows(r, 1+r.Intn(5), 1+r.Intn(5), 1+r.Intn(6), r.Intn(4))
		var blocks []impl.Block
		var cutAt []at
		for range r.Intn(impl.MaxBlocks + 1) {
			b, place := cutFrom(r, whole)
			blocks, cutAt = append(blocks, b), append(cutAt, place)
		}
		places, end, ok := impl.FirstRebuilding(len(whole), len(whole[0]), blocks)
		if !ok || len(places) != len(blocks) {
			t.Fatalf("blocks of %q: FirstRebuilding(%q) = %v, %q, %v", whole, blocks, places, end, ok)
		}
		if slices.CompareFunc(places, cutAt, func(x, y at) int { return slices.Compare(x[:], y[:]) }) > 0 {
			t.Fatalf("blocks of %q: FirstRebuilding(%q) = %v, behind %v", whole, blocks, places, cutAt)
		}
		sheet := pointSheet(len(whole), len(whole[0]))
		for i, b := range blocks {
			fitting, fine := impl.PlacesFor(sheet, b)
			next, laid := impl.LayBlock(sheet, b, places[i][0], places[i][1])
			if !fine || !laid || !slices.Contains(fitting, places[i]) {
				t.Fatalf("blocks of %q: %q does not fit at %v of %q", whole, b.Rows, places[i], sheet)
			}
			sheet = next
		}
		if !slices.Equal(sheet, end) || !impl.IsSheet(end) {
			t.Fatalf("blocks of %q: the sheet is %q, not %q", whole, end, sheet)
		}
		for i, b := range blocks {
			if again, laid := impl.LayBlock(end, b, places[i][0], places[i][1]); !laid || !slices.Equal(again, end) {
				t.Fatalf("blocks of %q: %q does not agree with %q at %v", whole, b.Rows, end, places[i])
			}
		}
	}
}

func TestRebuildingsOnTheLargestSheets(t *testing.T) {
	points := slices.Repeat([]impl.Block{block(".")}, 3)
	if _, _, ok := impl.FirstRebuilding(5, 2, append(slices.Clone(points), block("..."))); ok {
		t.Error("a block that fits nowhere")
	}
	if n, ok := impl.CountRebuildings(2, 5, append(slices.Clone(points), block(".", ".", ".")), 1); !ok || n != 0 {
		t.Error("a block that fits nowhere", n, ok)
	}
	if sheet, n, ok := impl.FullestRebuilding(5, 5, points); !ok || n != 25 || !slices.Equal(sheet, pointSheet(5, 5)) {
		t.Error("three points", sheet, n, ok)
	}
	letters := []impl.Block{block("a"), block("a"), block("a")}
	if sheet, n, ok := impl.FullestRebuilding(5, 5, letters); !ok || n != 22 || !slices.Equal(sheet, []string{"aaa..", ".....", ".....", ".....", "....."}) {
		t.Error("three letters", sheet, n, ok)
	}
	four := []impl.Block{block("abc", "def", "ghi"), block("...", ".x.", "..."), block("xyz"), block("ij")}
	places, sheet, ok := impl.FirstRebuilding(5, 5, four)
	if !ok || !slices.Equal(places, []at{{0, 0}, {0, 2}, {3, 0}, {0, 3}}) ||
		!slices.Equal(sheet, []string{"abcij", "defx.", "ghi..", "xyz..", "....."}) {
		t.Error("four blocks", places, sheet, ok)
	}
}

func TestRebuildingsRefuse(t *testing.T) {
	refused := func(rows, cols int, blocks []impl.Block, most int) {
		t.Helper()
		if n, ok := impl.CountRebuildings(rows, cols, blocks, most); ok || n != 0 {
			t.Errorf("CountRebuildings(%d, %d, %d blocks, %d) = %d, %v", rows, cols, len(blocks), most, n, ok)
		}
	}
	allRefused := func(rows, cols int, blocks []impl.Block) {
		t.Helper()
		refused(rows, cols, blocks, 10)
		if places, sheet, ok := impl.FirstRebuilding(rows, cols, blocks); ok || len(places) != 0 || len(sheet) != 0 {
			t.Errorf("FirstRebuilding(%d, %d, %d blocks) = %v, %q, %v", rows, cols, len(blocks), places, sheet, ok)
		}
		if sheet, points, ok := impl.FullestRebuilding(rows, cols, blocks); ok || len(sheet) != 0 || points != 0 {
			t.Errorf("FullestRebuilding(%d, %d, %d blocks) = %q, %d, %v", rows, cols, len(blocks), sheet, points, ok)
		}
	}
	for _, blocks := range [][]impl.Block{nil, {block("a")}, {block("."), block("ab")}} {
		for _, n := range append([]int{-2, -1, 0, 6, 7, 25}, farInts...) {
			allRefused(n, 3, blocks)
			allRefused(3, n, blocks)
			allRefused(n, n, blocks)
		}
		for _, most := range append([]int{-1000, -1, 0, 1001}, farInts...) {
			refused(3, 3, blocks, most)
		}
	}
	for _, blocks := range badBlockLists(impl.MaxBlocks) {
		allRefused(5, 5, blocks)
		allRefused(1, 1, blocks)
	}
}

func TestFullestRebuildingTakesThreeBlocks(t *testing.T) {
	for count := range 6 {
		blocks := slices.Repeat([]impl.Block{block("a")}, count)
		if sheet, points, ok := impl.FullestRebuilding(1, 5, blocks); ok != (count <= 3) || ok && points != 5-count || !ok && len(sheet)+points > 0 {
			t.Error("fullest", count, sheet, points, ok)
		}
		if places, sheet, ok := impl.FirstRebuilding(1, 5, blocks); ok != (count <= 4) || ok && len(places) != count || !ok && len(sheet) > 0 {
			t.Error("first", count, places, sheet, ok)
		}
		if n, ok := impl.CountRebuildings(1, 1, blocks, 10); ok != (count <= 4) || ok != (n == 1) {
			t.Error("count", count, n, ok)
		}
	}
}

func TestDoAgree(t *testing.T) {
	for _, x := range []struct {
		a, b        impl.Block
		down, right int
		want        bool
	}{
		{block("ab"), block("b"), 0, 1, true},
		{block("ab"), block("b"), 0, 0, false},
		{block("ab"), block("b"), 0, 2, true},
		{block("ab"), block("b"), 0, -1, true},
		{block("ab"), block("b"), 1, 0, true},
		{block("ab"), block("b"), -1, 0, true},
		{block("a", "b"), block("b"), 1, 0, true},
		{block("a", "b"), block("b"), 0, 0, false},
		{block("b"), block("a", "b"), -1, 0, true},
		{block("b"), block("ab"), 0, -1, true},
		{block("abc", "def", "ghi"), block("i"), 2, 2, true},
		{block("abc", "def", "ghi"), block("x"), 2, 2, false},
		{block("abc", "def", "ghi"), block("xyz", "uvw", "rsa"), -2, -2, true},
		{block("abc", "def", "ghi"), block("xyz", "uvw", "rsb"), -2, -2, false},
		{block("abc", "def", "ghi"), block("xyz", "uvw", "crs"), -2, 2, true},
		{block("abc", "def", "ghi"), block("xyz", "uvw", "rcs"), -2, 2, false},
		{block("abc", "def", "ghi"), block("xyg", "uvw", "rst"), 2, -2, true},
		{block("abc", "def", "ghi"), block("xgy", "uvw", "rst"), 2, -2, false},
		// A point agrees with all letters, on either side.
		{block("a"), block("."), 0, 0, true},
		{block("."), block("a"), 0, 0, true},
		{block("."), block("."), 0, 0, true},
		{block("...", "...", "..."), block("abc", "def", "ghi"), 1, -1, true},
		{block("a."), block(".b"), 0, 0, true},
		{block("ax"), block(".b"), 0, 0, false},
	} {
		if got, ok := impl.DoAgree(x.a, x.b, x.down, x.right); !ok || got != x.want {
			t.Errorf("DoAgree(%q, %q, %d, %d) = %v, %v", x.a.Rows, x.b.Rows, x.down, x.right, got, ok)
		}
	}
}

func TestBlocksAgreeWhereNoLetterDiffers(t *testing.T) {
	r := rand.New(rand.NewSource(45))
	for range 3000 {
		a, b := randomBlock(r), randomBlock(r)
		for down := -2; down <= 2; down++ {
			for right := -2; right <= 2; right++ {
				want := noneDiffers(lettersAt(a.Rows, at{}), lettersAt(b.Rows, at{down, right}))
				if got, ok := impl.DoAgree(a, b, down, right); !ok || got != want {
					t.Fatalf("DoAgree(%q, %q, %d, %d) = %v, %v", a.Rows, b.Rows, down, right, got, ok)
				}
				if got, ok := impl.DoAgree(b, a, -down, -right); !ok || got != want {
					t.Fatalf("DoAgree(%q, %q, %d, %d) = %v, %v", b.Rows, a.Rows, -down, -right, got, ok)
				}
			}
		}
	}
}

func TestDoAgreeRefuses(t *testing.T) {
	refused := func(a, b impl.Block, down, right int) {
		t.Helper()
		if got, ok := impl.DoAgree(a, b, down, right); ok || got {
			t.Errorf("DoAgree for %d, %d = %v, %v", down, right, got, ok)
		}
	}
	good := block("ab", ".d")
	for _, n := range append([]int{-4, -3, 3, 4}, farInts...) {
		refused(good, good, n, 0)
		refused(good, good, 0, n)
		refused(good, good, n, n)
	}
	for _, bad := range badBlocks() {
		refused(good, bad, 0, 0)
		refused(bad, good, 0, 0)
		refused(bad, bad, 2, -2)
	}
}

func TestPointsOn(t *testing.T) {
	for _, x := range []struct {
		sheet []string
		want  int
	}{
		{[]string{"a."}, 1}, {[]string{"."}, 1}, {[]string{"z"}, 0}, {[]string{"...", "..a"}, 5}, {[]string{".", "a", "."}, 2},
		{pointSheet(5, 5), 25}, {pointSheet(5, 1), 5}, {[]string{"abcde", "abcde", "abcde", "abcde", "abcd."}, 1},
	} {
		if got, ok := impl.PointsOn(x.sheet); !ok || got != x.want {
			t.Errorf("PointsOn(%q) = %d, %v", x.sheet, got, ok)
		}
	}
	r := rand.New(rand.NewSource(46))
	for range 2000 {
		rows, cols := 1+r.Intn(5), 1+r.Intn(5)
		sheet := randomRows(r, rows, cols, 26, r.Intn(11))
		if got, ok := impl.PointsOn(sheet); !ok || got != rows*cols-len(lettersAt(sheet, at{})) {
			t.Fatalf("PointsOn(%q) = %d, %v", sheet, got, ok)
		}
	}
}

func TestBlockText(t *testing.T) {
	for _, x := range []struct {
		b    impl.Block
		want string
	}{
		{block("ab", "cd"), "ab/cd"}, {block("a"), "a"}, {block("."), "."}, {block("abc"), "abc"}, {block("a", "b", "c"), "a/b/c"},
		{block("...", "...", "..."), ".../.../..."}, {block("x.z", ".y."), "x.z/.y."},
	} {
		if got, ok := impl.BlockText(x.b); !ok || got != x.want {
			t.Errorf("BlockText(%q) = %q, %v", x.b.Rows, got, ok)
		}
	}
	for i, b := range badBlocks() {
		if got, ok := impl.BlockText(b); ok || got != "" {
			t.Errorf("BlockText of no block %d = %.40q, %v", i, got, ok)
		}
	}
}

func TestSheetsRefuseRowsThatAreNone(t *testing.T) {
	for i, rows := range badRows() {
		if sheet, ok := impl.LayBlock(rows, block("."), 0, 0); ok || len(sheet) != 0 {
			t.Errorf("LayBlock on no sheet %d = %.40q, %v", i, sheet, ok)
		}
		if places, ok := impl.PlacesFor(rows, block(".")); ok || len(places) != 0 {
			t.Error("PlacesFor on no sheet", i, places, ok)
		}
		if n, ok := impl.PointsOn(rows); ok || n != 0 {
			t.Error("PointsOn no sheet", i, n, ok)
		}
	}
	for i, b := range badBlocks() {
		if sheet, ok := impl.LayBlock(pointSheet(5, 5), b, 0, 0); ok || len(sheet) != 0 {
			t.Errorf("LayBlock of no block %d = %.40q, %v", i, sheet, ok)
		}
		if places, ok := impl.PlacesFor(pointSheet(5, 5), b); ok || len(places) != 0 {
			t.Error("PlacesFor no block", i, places, ok)
		}
	}
}

func TestSheetsChangeNoArgument(t *testing.T) {
	room := []string{"a.", ".d", "x", "?"}
	kept := slices.Clone(room)
	sheet := room[:2]
	parts := []string{".b", "c.", "y", "??"}
	keptParts := slices.Clone(parts)
	blocks := []impl.Block{{Rows: parts[:2]}, {Rows: sheet}, {Rows: parts[3:]}}
	b := blocks[0]
	if got, ok := impl.LayBlock(sheet, b, 0, 0); !ok || !slices.Equal(got, []string{"ab", "cd"}) {
		t.Error("laid", got, ok)
	}
	if got, ok := impl.PlacesFor(sheet, b); !ok || !slices.Equal(got, []at{{0, 0}}) {
		t.Error("places", got, ok)
	}
	if places, got, ok := impl.FirstRebuilding(2, 2, blocks[:2]); !ok || len(places) != 2 || !slices.Equal(got, []string{"ab", "cd"}) {
		t.Error("first", places, got, ok)
	}
	if n, ok := impl.CountRebuildings(2, 2, blocks[:2], 10); !ok || n != 1 {
		t.Error("count", n, ok)
	}
	if got, n, ok := impl.FullestRebuilding(2, 2, blocks[:2]); !ok || n != 0 || !slices.Equal(got, []string{"ab", "cd"}) {
		t.Error("fullest", got, n, ok)
	}
	if agreed, ok := impl.DoAgree(b, blocks[1], 0, 0); !ok || !agreed {
		t.Error("agree", agreed, ok)
	}
	if n, ok := impl.PointsOn(sheet); !ok || n != 2 {
		t.Error("points", n, ok)
	}
	if text, ok := impl.BlockText(b); !ok || text != ".b/c." {
		t.Error("text", text, ok)
	}
	impl.LayBlock(room, b, 0, 0)
	impl.FirstRebuilding(2, 2, blocks)
	impl.FullestRebuilding(5, 5, blocks)
	if !slices.Equal(room, kept) || !slices.Equal(parts, keptParts) || len(blocks[0].Rows) != 2 || len(blocks[1].Rows) != 2 {
		t.Error("an argument was changed", room, parts, blocks)
	}
}

func TestResultsOfSheetsAreNew(t *testing.T) {
	sheet := []string{"ab", "cd"}
	blocks := []impl.Block{block("ab", "cd"), block("..")}
	spoil := func(rows []string, places []at) {
		for i := range rows[:cap(rows)] {
			rows[:cap(rows)][i] = "changed"
		}
		for i := range places[:cap(places)] {
			places[:cap(places)][i] = at{-1, -1}
		}
	}
	for range 2 {
		rows, ok := impl.LayBlock(sheet, blocks[1], 0, 0)
		if !ok || !slices.Equal(rows, []string{"ab", "cd"}) {
			t.Error("laid", rows, ok)
		}
		places, ok := impl.PlacesFor(sheet, blocks[1])
		if !ok || !slices.Equal(places, []at{{0, 0}, {1, 0}}) {
			t.Error("places", places, ok)
		}
		spoil(rows, places)
		places, rows, ok = impl.FirstRebuilding(2, 2, blocks)
		if !ok || !slices.Equal(places, []at{{0, 0}, {0, 0}}) || !slices.Equal(rows, []string{"ab", "cd"}) {
			t.Error("first", places, rows, ok)
		}
		spoil(rows, places)
		rows, n, ok := impl.FullestRebuilding(2, 2, blocks)
		if !ok || n != 0 || !slices.Equal(rows, []string{"ab", "cd"}) {
			t.Error("fullest", rows, n, ok)
		}
		spoil(rows, nil)
	}
	if !slices.Equal(sheet, []string{"ab", "cd"}) || !slices.Equal(blocks[0].Rows, sheet) || !slices.Equal(blocks[1].Rows, []string{".."}) {
		t.Error("a changed result changed an argument", sheet, blocks)
	}
}
