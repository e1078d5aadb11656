package tests

import (
	"math/rand"
	"slices"
	"strings"
	"testing"

	"loop.example/g01062/impl"
)

var goodPostmark = impl.Postmark{Id: 7, Town: "bern", Kind: 2, First: 100, Last: 200, Lost: ".x.."}

// examplePostmarks are two of bern, of which the earlier one shows b?rn, and one each of the others.
var examplePostmarks = []impl.Postmark{
	{Id: 1, Town: "bern", Kind: 2, First: 100, Last: 200, Lost: ".x.."},
	{Id: 4, Town: "bonn", Kind: 1, First: 150, Last: 300, Lost: "...."},
	{Id: 5, Town: "ber", Kind: 5, First: 0, Last: 150, Lost: "xx."},
	{Id: 9, Town: "bern", Kind: 2, First: 250, Last: 300, Lost: "...."},
	{Id: 999, Town: "zug", Kind: 3, First: 4000, Last: 4000, Lost: "..x"},
}

// markOf is goodPostmark with another Town and other letters lost.
func markOf(town, lost string) impl.Postmark {
	p := goodPostmark
	p.Town, p.Lost = town, lost
	return p
}

// clearMark is goodPostmark with another Town, of which all letters are seen.
func clearMark(town string) impl.Postmark { return markOf(town, strings.Repeat(".", len(town))) }

// usedFrom is goodPostmark with other days.
func usedFrom(first, last int) impl.Postmark {
	p := goodPostmark
	p.First, p.Last = first, last
	return p
}

// postmarksWithIds makes postmarks that differ in their Ids alone.
func postmarksWithIds(ids ...int) []impl.Postmark {
	list := []impl.Postmark{}
	for _, id := range ids {
		p := goodPostmark
		p.Id = id
		list = append(list, p)
	}
	return list
}

// inOrder gives postmarks the Ids 1, 2, 3 and so on.
func inOrder(list ...impl.Postmark) []impl.Postmark {
	for i := range list {
		list[i].Id = i + 1
	}
	return list
}

// usesOf makes postmarks of bern with the Ids 1, 2, 3 and so on and some first and last days.
func usesOf(days ...[2]int) []impl.Postmark {
	list := []impl.Postmark{}
	for _, d := range days {
		list = append(list, usedFrom(d[0], d[1]))
	}
	return inOrder(list...)
}

// badLosses are none of bern.
func badLosses() []string {
	list := []string{
		// Shorter, longer, and with no letter that is seen.
		"", ".", "...", "x..", "..x", ".....", "x....", "....x", "........", strings.Repeat(".", 11), strings.Repeat(".", 1000000), "xxxx", "xxx", "xxxxx", "x",
		"bern", "b.rn", "????", ".?..", ".X..", "....\n", "...\u00d7", ". ..", "...\uff0e",
	}
	for c := range 256 {
		if c != '.' && c != 'x' {
			b := string([]byte{byte(c)})
			list = append(list, b+"...", ".x"+b+".", "xxx"+b, b+"xx.", "...."+b)
		}
	}
	return list
}

// badPostmarks are not valid, each in one field, or in two together.
func badPostmarks() []impl.Postmark {
	list := append(postmarksWithIds(farCoverIds...), impl.Postmark{})
	for _, town := range append(noMarks(), "") {
		list = append(list, clearMark(town))
	}
	for _, n := range append([]int{-5, -2, -1, 0, 6, 7, 10, 12}, farInts...) {
		p := goodPostmark
		p.Kind = n
		list = append(list, p)
	}
	for _, n := range farDays {
		list = append(list, usedFrom(n, 200), usedFrom(100, n), usedFrom(n, n))
	}
	// First is behind Last, by one day and by more.
	for _, d := range [][2]int{{1, 0}, {201, 200}, {200, 100}, {4000, 3999}, {4000, 0}} {
		list = append(list, usedFrom(d[0], d[1]))
	}
	for _, lost := range badLosses() {
		list = append(list, markOf("bern", lost))
	}
	return append(list,
		markOf("z", "x"), markOf("z", ""), markOf("z", ".."), markOf("z", ".x"), markOf("z", "x."), markOf("z", "?"), markOf("z", "z"),
		markOf("abcdefghij", "xxxxxxxxxx"), markOf("abcdefghij", "........."), markOf("abcdefghij", "..........."), markOf("abcdefghijk", ".........."), markOf("", "."), markOf("", "x"))
}

// badPostmarkLists are no Postmarks.
func badPostmarkLists() [][]impl.Postmark {
	lists := [][]impl.Postmark{
		postmarksWithIds(upTo(impl.MaxPostmarks + 2)[1:]...), postmarksWithIds(upTo(101)[1:]...), make([]impl.Postmark, 1), make([]impl.Postmark, 1000000),
		// The same Id twice, behind each other and with another one between, with the same and with other fields.
		postmarksWithIds(7, 7), postmarksWithIds(1, 7, 7), postmarksWithIds(7, 8, 7), {goodPostmark, clearMark("bern")}, {usedFrom(1, 2), usedFrom(3, 4)},
		// Ids that descend.
		postmarksWithIds(8, 7), postmarksWithIds(999, 7), postmarksWithIds(7, 9, 8), postmarksWithIds(8, 7, 9),
	}
	for _, p := range badPostmarks() {
		lists = append(lists, []impl.Postmark{p})
		if p.Id == goodPostmark.Id {
			lists = append(lists, append(postmarksWithIds(6), p), append([]impl.Postmark{p}, postmarksWithIds(8)...))
		}
	}
	return lists
}

// goodReadings are readings.
func goodReadings() []string {
	return []string{"a", "z", "?", "??", "bern", "b?rn", "????", "?bern", "bern?", "abcdefghij", "??????????", "abcde?ghij", "?bcdefghij", "abcdefghi?"}
}

// noReadings are none.
func noReadings() []string {
	list := []string{"", "abcdefghijk", "???????????", "abcdefghij?", "?abcdefghij", strings.Repeat("?", 1000000), "b?rN", "b?r ", "b?r.", "bx.."}
	for _, mark := range noMarks() {
		if len(mark) > 10 || !strings.Contains(mark, "?") {
			list = append(list, mark)
		}
	}
	for c := range 256 {
		if c != '?' && (c < 'a' || c > 'z') {
			b := string([]byte{byte(c)})
			list = append(list, b, "?"+b, b+"?", "b"+b+"rn", "?????????"+b)
		}
	}
	return list
}

// lettersOn are what is seen of a postmark, by the places.
func lettersOn(p impl.Postmark) map[int]byte {
	seen := map[int]byte{}
	for i := range len(p.Town) {
		if p.Lost[i:i+1] == "." {
			seen[i] = p.Town[i]
		}
	}
	return seen
}

// shownText tells the letters that are seen, and the lost ones as question marks.
func shownText(p impl.Postmark) string {
	text := []byte(strings.Repeat("?", len(p.Town)))
	for i, letter := range lettersOn(p) {
		text[i] = letter
	}
	return string(text)
}

// wordsFor are all words of the letters a to c that a reading may stand for.
func wordsFor(reading string) []string {
	if reading == "" {
		return []string{""}
	}
	firsts := reading[:1]
	if firsts == "?" {
		firsts = "abc"
	}
	words := []string{}
	for _, rest := range wordsFor(reading[1:]) {
		for i := range len(firsts) {
			words = append(words, firsts[i:i+1]+rest)
		}
	}
	return words
}

// mayBeSame reports whether two readings of the letters a to c may stand for the same word.
func mayBeSame(a, b string) bool {
	words := wordsFor(b)
	return slices.ContainsFunc(wordsFor(a), func(word string) bool { return slices.Contains(words, word) })
}

// allReadings are all readings of the signs with some lengths.
func allReadings(signs string, most int) []string {
	list, last := []string{}, []string{""}
	for range most {
		longer := []string{}
		for _, reading := range last {
			for i := range len(signs) {
				longer = append(longer, reading+signs[i:i+1])
			}
		}
		list = append(list, longer...)
		last = longer
	}
	return list
}

// daysOfUse are the first and the last days of postmarks, those beside them, and the first and the last day of all.
func daysOfUse(list []impl.Postmark) []int {
	days := []int{0, impl.MaxDay}
	for _, p := range list {
		for _, day := range []int{p.First - 1, p.First, p.Last, p.Last + 1} {
			if day >= 0 && day <= impl.MaxDay {
				days = append(days, day)
			}
		}
	}
	slices.Sort(days)
	return slices.Compact(days)
}

// randomPostmark makes a postmark of a town of the letters a and b, which is used within a few days.
func randomPostmark(r *rand.Rand, id int) impl.Postmark {
	length := 1 + r.Intn(3)
	town, lost := make([]byte, length), make([]byte, length)
	for i := range length {
		town[i], lost[i] = "ab"[r.Intn(2)], ".x"[r.Intn(2)]
	}
	lost[r.Intn(length)] = '.'
	start := []int{0, 500, 3980}[r.Intn(3)]
	if r.Intn(2) == 0 {
		start = 500
	}
	a, b := start+r.Intn(21), start+r.Intn(21)
	return impl.Postmark{Id: id, Town: string(town), Kind: 1 + r.Intn(5), First: min(a, b), Last: max(a, b), Lost: string(lost)}
}

// randomPostmarks makes at most MaxPostmarks postmarks.
func randomPostmarks(r *rand.Rand) []impl.Postmark {
	list := []impl.Postmark{}
	id := r.Intn(20)
	for range r.Intn(impl.MaxPostmarks + 1) {
		id += 1 + r.Intn(70)
		list = append(list, randomPostmark(r, id))
	}
	return list
}

// usedDays are the days in a use, painted.
func usedDays(list []impl.Postmark, isCounted func(impl.Postmark) bool) *[impl.MaxDay + 1]bool {
	days := &[impl.MaxDay + 1]bool{}
	for _, p := range list {
		if isCounted(p) {
			for day := p.First; day <= p.Last; day++ {
				days[day] = true
			}
		}
	}
	return days
}

func TestConstantsOfPostmarks(t *testing.T) {
	if impl.MaxPostmarks != 12 {
		t.Error("limit", impl.MaxPostmarks)
	}
}

func TestIsPostmark(t *testing.T) {
	for _, p := range append(slices.Clone(examplePostmarks), goodPostmark,
		impl.Postmark{Id: 1, Town: "a", Kind: 1, First: 0, Last: 0, Lost: "."},
		impl.Postmark{Id: 999, Town: "zzzzzzzzzz", Kind: 5, First: 4000, Last: 4000, Lost: "xxxxxxxxx."},
		usedFrom(0, 4000), usedFrom(0, 0), usedFrom(0, 1), usedFrom(3999, 4000), usedFrom(200, 200), usedFrom(199, 200),
		markOf("x", "."), markOf("xx", "x."), markOf("bern", "xxx."), markOf("bern", ".xxx"), markOf("bern", "x.xx"), markOf("abcdefghij", ".xxxxxxxxx"), markOf("abcdefghij", "xxxx.xxxxx"),
	) {
		if !impl.IsPostmark(p) {
			t.Error("a postmark", p)
		}
	}
	for _, town := range goodMarks() {
		if !impl.IsPostmark(clearMark(town)) {
			t.Error("a town", town)
		}
	}
	for _, p := range badPostmarks() {
		if impl.IsPostmark(p) {
			t.Errorf("no postmark: %d %.20q %d %d %d %.20q", p.Id, p.Town, p.Kind, p.First, p.Last, p.Lost)
		}
	}
}

func TestPostmarksAtTheirLimits(t *testing.T) {
	for n := -3; n <= 4003; n++ {
		id, kind := goodPostmark, goodPostmark
		id.Id, kind.Kind = n, n
		for _, x := range []struct {
			name string
			mark impl.Postmark
			want bool
		}{
			{"id", id, n >= 1 && n <= 999}, {"kind", kind, n >= 1 && n <= 5}, {"first", usedFrom(n, 2000), n >= 0 && n <= 2000}, {"last", usedFrom(2000, n), n >= 2000 && n <= 4000},
			{"a day", usedFrom(n, n), n >= 0 && n <= 4000}, {"two days", usedFrom(n, n+1), n >= 0 && n < 4000}, {"back by a day", usedFrom(n, n-1), false},
		} {
			if got := impl.IsPostmark(x.mark); got != x.want {
				t.Error(x.name, n, got)
			}
		}
	}
}

func TestTownsAndLossesOfAllLengths(t *testing.T) {
	for town := range 14 {
		for lost := range 14 {
			for seen := range lost + 1 {
				p := markOf(strings.Repeat("q", town), strings.Repeat("x", lost-seen)+strings.Repeat(".", seen))
				want := town >= 1 && town <= 10 && lost == town && seen >= 1
				if got := impl.IsPostmark(p); got != want {
					t.Error("a town and a loss", town, lost, seen, got)
				}
			}
		}
	}
}

func TestArePostmarks(t *testing.T) {
	for _, list := range [][]impl.Postmark{
		nil, {}, {goodPostmark}, examplePostmarks, postmarksWithIds(1, 999), postmarksWithIds(1, 2, 3), postmarksWithIds(990, 998, 999),
		postmarksWithIds(upTo(impl.MaxPostmarks + 1)[1:]...), postmarksWithIds(upTo(impl.MaxPostmarks)[1:]...),
		// Only the Ids must ascend.
		inOrder(clearMark("zug"), clearMark("bern")), inOrder(goodPostmark, goodPostmark), usesOf([2]int{200, 300}, [2]int{0, 10}, [2]int{200, 300}),
	} {
		if !impl.ArePostmarks(list) {
			t.Error("postmarks", list)
		}
	}
	for i, list := range badPostmarkLists() {
		if impl.ArePostmarks(list) {
			t.Error("no postmarks", i, len(list))
		}
	}
}

func TestShownBy(t *testing.T) {
	for _, x := range []struct{ town, lost, want string }{
		{"bern", ".x..", "b?rn"}, {"bern", "....", "bern"}, {"bern", "xx..", "??rn"}, {"bern", "xxx.", "???n"}, {"bern", ".xxx", "b???"}, {"bern", "x..x", "?er?"},
		{"z", ".", "z"}, {"x", ".", "x"}, {"xx", "x.", "?x"}, {"xx", ".x", "x?"}, {"xerox", "x...x", "?ero?"}, {"xerox", ".xxx.", "x???x"},
		{"abcdefghij", "..........", "abcdefghij"}, {"abcdefghij", "xxxxxxxxx.", "?????????j"}, {"abcdefghij", ".xxxxxxxxx", "a?????????"}, {"abcdefghij", "x.x.x.x.x.", "?b?d?f?h?j"},
	} {
		if got, ok := impl.ShownBy(markOf(x.town, x.lost)); !ok || got != x.want {
			t.Errorf("ShownBy %s %s = %q, %v", x.town, x.lost, got, ok)
		}
	}
	for _, p := range badPostmarks() {
		if got, ok := impl.ShownBy(p); ok || got != "" {
			t.Errorf("ShownBy %.20q %.20q = %q, %v", p.Town, p.Lost, got, ok)
		}
	}
}

func TestReadMarks(t *testing.T) {
	for _, x := range []struct {
		reading string
		day     int
		want    []int
	}{
		{"bern", 150, []int{1}}, {"b?n?", 150, []int{4}}, {"b??n", 150, []int{1, 4}}, {"????", 150, []int{1, 4}}, {"???", 150, []int{5}}, {"?", 150, nil}, {"?????", 150, nil}, {"??????????", 150, nil},
		// As long, but other in a letter that is seen, or in one that is lost.
		{"bexn", 150, nil}, {"bxrn", 150, []int{1}}, {"b?rn", 150, []int{1}}, {"bonn", 150, []int{4}}, {"bxnn", 150, nil}, {"xyr", 150, []int{5}}, {"ber", 150, []int{5}}, {"bex", 150, nil}, {"be?", 150, []int{5}},
		{"zux", 4000, []int{999}}, {"xu?", 4000, nil}, {"?ug", 4000, []int{999}},
		// Just the first and the last day, and those beside them.
		{"b?rn", 99, nil}, {"b?rn", 100, []int{1}}, {"b?rn", 200, []int{1}}, {"b?rn", 201, nil}, {"b?rn", 249, nil}, {"b?rn", 250, []int{9}}, {"????", 300, []int{4, 9}}, {"????", 301, nil}, {"b???", 149, []int{1}},
		{"??r", 0, []int{5}}, {"??r", 151, nil}, {"zug", 3999, nil}, {"zug", 4000, []int{999}}, {"????", 250, []int{4, 9}}, {"????", 200, []int{1, 4}}, {"????", 201, []int{4}},
	} {
		if got, ok := impl.ReadMarks(examplePostmarks, x.reading, x.day); !ok || !slices.Equal(got, x.want) {
			t.Errorf("ReadMarks(%q, %d) = %v, %v, not %v", x.reading, x.day, got, ok, x.want)
		}
	}
	for _, reading := range goodReadings() {
		for _, none := range [][]impl.Postmark{nil, {}} {
			if got, ok := impl.ReadMarks(none, reading, 0); !ok || len(got) != 0 {
				t.Error("of no postmarks", reading, got, ok)
			}
		}
		length := len(reading)
		endsWithA := strings.HasSuffix(reading, "a") || strings.HasSuffix(reading, "?")
		for _, x := range []struct {
			mark impl.Postmark
			want bool
		}{
			{clearMark(strings.ReplaceAll(reading, "?", "q")), true}, {markOf(strings.Repeat("a", length), strings.Repeat("x", length-1)+"."), endsWithA},
			{clearMark(strings.Repeat("y", length)), strings.Trim(reading, "?") == ""},
		} {
			for _, day := range []int{99, 100, 200, 201} {
				want := []int{}
				if x.want && day >= 100 && day <= 200 {
					want = append(want, 7)
				}
				if got, ok := impl.ReadMarks([]impl.Postmark{x.mark}, reading, day); !ok || !slices.Equal(got, want) {
					t.Error("a reading", reading, x.mark, day, got, ok)
				}
			}
		}
	}
	full := postmarksWithIds(upTo(impl.MaxPostmarks + 1)[1:]...)
	if got, ok := impl.ReadMarks(full, "b?rn", 200); !ok || !slices.Equal(got, upTo(impl.MaxPostmarks + 1)[1:]) {
		t.Error("of the most postmarks", got, ok)
	}
}

func TestReadMarksOfRandomPostmarks(t *testing.T) {
	r := rand.New(rand.NewSource(1111))
	readings := allReadings("abc?", 3)
	read := 0
	for range 400 {
		list := randomPostmarks(r)
		if !impl.ArePostmarks(list) {
			t.Fatal("postmarks", list)
		}
		days := daysOfUse(list)
		for range 40 {
			reading, day := readings[r.Intn(len(readings))], days[r.Intn(len(days))]
			want := []int{}
			for _, p := range list {
				if p.First <= day && p.Last >= day && mayBeSame(reading, shownText(p)) {
					want = append(want, p.Id)
				}
			}
			read += len(want)
			if got, ok := impl.ReadMarks(list, reading, day); !ok || !slices.Equal(got, want) {
				t.Fatalf("ReadMarks(%v, %q, %d) = %v, %v, not %v", list, reading, day, got, ok, want)
			}
		}
	}
	if read < 1000 {
		t.Error("few readings", read)
	}
}

func TestLoseLetter(t *testing.T) {
	for _, x := range []struct {
		town, lost string
		place      int
		want       string
	}{
		{"bern", "....", 0, "x..."}, {"bern", "....", 1, ".x.."}, {"bern", "....", 3, "...x"}, {"bern", ".x..", 0, "xx.."}, {"bern", "xx..", 3, "xx.x"}, {"bern", "xx..", 2, "xxx."},
		{"ab", "..", 0, "x."}, {"ab", "..", 1, ".x"}, {"abcdefghij", "..........", 9, ".........x"}, {"abcdefghij", "xxxxxxxx..", 8, "xxxxxxxxx."}, {"abcdefghij", ".xxxx.xxxx", 0, "xxxxx.xxxx"}, {"xx", "..", 0, "x."},
	} {
		// Once alone, and once with one before and one behind.
		p, want := markOf(x.town, x.lost), markOf(x.town, x.want)
		if got, ok := impl.LoseLetter([]impl.Postmark{p}, 7, x.place); !ok || !slices.Equal(got, []impl.Postmark{want}) {
			t.Errorf("LoseLetter(%v, %d) = %v, %v", p, x.place, got, ok)
		}
		among, wantAmong := postmarksWithIds(3, 7, 999), postmarksWithIds(3, 7, 999)
		among[1], wantAmong[1] = p, want
		if got, ok := impl.LoseLetter(among, 7, x.place); !ok || !slices.Equal(got, wantAmong) {
			t.Errorf("LoseLetter(%v, %d) = %v, %v", among, x.place, got, ok)
		}
	}
}

// checkNotLost checks that a letter cannot be lost.
func checkNotLost(t *testing.T, list []impl.Postmark, id, place int) {
	t.Helper()
	if got, ok := impl.LoseLetter(list, id, place); ok || len(got) != 0 {
		t.Error("LoseLetter", len(list), id, place, got, ok)
	}
}

func TestLettersThatCannotBeLost(t *testing.T) {
	for _, x := range []struct {
		town, lost string
		place      int
	}{
		// The last letter that is seen, and letters that are lost already.
		{"z", ".", 0}, {"bern", "xxx.", 3}, {"bern", ".xxx", 0}, {"bern", "x.xx", 1}, {"abcdefghij", "xxxxxxxxx.", 9}, {"abcdefghij", "xxxx.xxxxx", 4},
		{"bern", ".x..", 1}, {"bern", "x...", 0}, {"bern", "...x", 3}, {"bern", "xxx.", 0}, {"bern", "xxx.", 2}, {"ab", ".x", 1}, {"abcdefghij", ".........x", 9},
		// Places before the first letter, and behind the last one.
		{"bern", "....", -1}, {"bern", "....", 4}, {"bern", "....", 5}, {"z", ".", -1}, {"z", ".", 1}, {"abcdefghij", "..........", 10}, {"abcdefghij", "..........", -1}, {"bern", ".x..", -4},
	} {
		checkNotLost(t, []impl.Postmark{markOf(x.town, x.lost)}, 7, x.place)
	}
	for _, n := range farInts {
		checkNotLost(t, examplePostmarks, 4, n)
		checkNotLost(t, examplePostmarks, 9, n)
	}
	for _, id := range append([]int{2, 3, 6, 8, 10, 998}, farCoverIds...) {
		for place := -1; place <= 4; place++ {
			checkNotLost(t, examplePostmarks, id, place)
			checkNotLost(t, nil, id, place)
			checkNotLost(t, []impl.Postmark{}, id, place)
		}
	}
	checkNotLost(t, nil, 7, 0)
}

// checkStillRead checks that, of a list in which a postmark lost a letter, each reading tells all that it told before, and no other one but this.
func checkStillRead(t *testing.T, list, worn []impl.Postmark, id int, readings []string) {
	t.Helper()
	for _, day := range daysOfUse(list) {
		for _, reading := range readings {
			before, ok := impl.ReadMarks(list, reading, day)
			after, okAfter := impl.ReadMarks(worn, reading, day)
			if !ok || !okAfter {
				t.Fatal("not read", list, worn, reading, day)
			}
			if slices.Contains(before, id) && !slices.Contains(after, id) {
				t.Fatal("no longer read", list, worn, id, reading, day)
			}
			isOther := func(n int) bool { return n == id }
			if !slices.Equal(slices.DeleteFunc(before, isOther), slices.DeleteFunc(after, isOther)) {
				t.Fatal("others are read", list, worn, id, reading, day)
			}
		}
	}
}

// TestPostmarksThatLoseLettersAreStillRead is promise 11.
func TestPostmarksThatLoseLettersAreStillRead(t *testing.T) {
	r := rand.New(rand.NewSource(11))
	readings := allReadings("abc?", 3)
	losses := 0
	for range 60 {
		list := randomPostmarks(r)
		if len(list) == 0 {
			continue
		}
		p := list[r.Intn(len(list))]
		for place := range len(p.Town) {
			want := p
			want.Lost = p.Lost[:place] + "x" + p.Lost[place+1:]
			worn, ok := impl.LoseLetter(list, p.Id, place)
			canLose := len(lettersOn(p)) > 1 && p.Lost[place] == '.'
			if ok != canLose {
				t.Fatal("a letter", list, p.Id, place, ok)
			}
			if !ok {
				continue
			}
			losses++
			wantList := slices.Clone(list)
			wantList[slices.Index(wantList, p)] = want
			if !slices.Equal(worn, wantList) || !impl.ArePostmarks(worn) {
				t.Fatal("a lost letter", list, p.Id, place, worn)
			}
			checkStillRead(t, list, worn, p.Id, readings)
		}
	}
	if losses < 30 {
		t.Error("few losses", losses)
	}
}

func TestPostmarksAreReadUntilOneLetterIsLeft(t *testing.T) {
	for left := range 10 {
		list := []impl.Postmark{goodPostmark, clearMark("abcdefghij")}
		list[1].Id = 8
		start := slices.Clone(list)
		for place := range 10 {
			if place == left {
				continue
			}
			worn, ok := impl.LoseLetter(list, 8, place)
			if !ok {
				t.Fatal("a letter", left, place)
			}
			list = worn
			text, _ := impl.ShownBy(list[1])
			for _, reading := range []string{"abcdefghij", text, "??????????"} {
				for _, day := range []int{99, 100, 150, 200, 201} {
					isUsed := day >= 100 && day <= 200
					if got, ok := impl.ReadMarks(list, reading, day); !ok || slices.Equal(got, []int{8}) != isUsed {
						t.Error("read", left, place, reading, day, got, ok)
					}
				}
			}
			// What was lost no longer tells it from another one, what is seen still does.
			other := []byte("abcdefghij")
			other[place] = 'z'
			if got, ok := impl.ReadMarks(list, string(other), 150); !ok || !slices.Equal(got, []int{8}) {
				t.Error("other in a lost letter", left, place, got, ok)
			}
			other[left] = 'z'
			if got, ok := impl.ReadMarks(list, string(other), 150); !ok || len(got) != 0 {
				t.Error("other in the letter that is seen", left, place, got, ok)
			}
		}
		checkNotLost(t, list, 8, left)
		if list[1].Lost != strings.Repeat("x", left)+"."+strings.Repeat("x", 9-left) || list[0] != start[0] {
			t.Error("one letter left", left, list)
		}
	}
}

func TestLatestUse(t *testing.T) {
	for _, x := range []struct {
		list     []impl.Postmark
		town     string
		id, last int
	}{
		{examplePostmarks, "bern", 9, 300}, {examplePostmarks, "bonn", 4, 300}, {examplePostmarks, "ber", 5, 150}, {examplePostmarks, "zug", 999, 4000},
		// The same Last twice: the first one, wherever the greatest one stands.
		{usesOf([2]int{10, 20}, [2]int{5, 20}), "bern", 1, 20}, {usesOf([2]int{5, 20}, [2]int{10, 20}, [2]int{0, 20}), "bern", 1, 20}, {usesOf([2]int{0, 19}, [2]int{10, 20}, [2]int{0, 20}), "bern", 2, 20},
		{usesOf([2]int{0, 20}, [2]int{21, 21}), "bern", 2, 21}, {usesOf([2]int{20, 21}, [2]int{0, 20}), "bern", 1, 21}, {usesOf([2]int{0, 0}), "bern", 1, 0}, {usesOf([2]int{0, 0}, [2]int{0, 0}), "bern", 1, 0}, {usesOf([2]int{0, 4000}, [2]int{4000, 4000}), "bern", 1, 4000},
		// Others were used later, and Towns of which one is the beginning of the other.
		{inOrder(usedFrom(0, 10), clearMark("ber"), clearMark("berna"), clearMark("bernb")), "bern", 1, 10}, {inOrder(clearMark("ber"), usedFrom(0, 10)), "ber", 1, 200}, {inOrder(usedFrom(0, 300), clearMark("b")), "b", 2, 200},
		// The Town counts, and not what is shown.
		{inOrder(markOf("bern", "xxx."), markOf("born", "xxx.")), "born", 2, 200}, {inOrder(markOf("bern", "xxx.")), "bern", 1, 200}, {inOrder(clearMark("abcdefghij")), "abcdefghij", 1, 200},
		{postmarksWithIds(upTo(impl.MaxPostmarks + 1)[1:]...), "bern", 1, 200},
	} {
		if id, last, ok := impl.LatestUse(x.list, x.town); !ok || id != x.id || last != x.last {
			t.Errorf("LatestUse(%v, %q) = %d, %d, %v", x.list, x.town, id, last, ok)
		}
	}
}

// checkNoTown checks that nothing is told of the postmarks of a town.
func checkNoTown(t *testing.T, list []impl.Postmark, town string) {
	t.Helper()
	if id, last, ok := impl.LatestUse(list, town); ok || id != 0 || last != 0 {
		t.Errorf("LatestUse of %d, %.20q = %d, %d, %v", len(list), town, id, last, ok)
	}
	if got, ok := impl.GapBetween(list, town); ok || got != 0 {
		t.Errorf("GapBetween of %d, %.20q = %d, %v", len(list), town, got, ok)
	}
}

func TestTownsWithoutPostmarks(t *testing.T) {
	for _, town := range append(noMarks(), "", "bernn", "be", "b", "bon", "z", "abcdefghij", "b?rn", "????", "??g") {
		checkNoTown(t, examplePostmarks, town)
	}
	for _, town := range append(goodMarks(), "", "bern") {
		checkNoTown(t, nil, town)
		checkNoTown(t, []impl.Postmark{}, town)
	}
}

func TestExtendUse(t *testing.T) {
	for _, x := range []struct {
		first, last, day         int
		wantFirst, wantLast, one int
	}{
		// Behind the use, before it, and within it.
		{100, 200, 250, 100, 250, 50}, {100, 200, 201, 100, 201, 1}, {100, 200, 4000, 100, 4000, 3800}, {100, 200, 50, 50, 200, 50}, {100, 200, 99, 99, 200, 1}, {100, 200, 0, 0, 200, 100},
		{100, 200, 100, 100, 200, 0}, {100, 200, 200, 100, 200, 0}, {100, 200, 150, 100, 200, 0}, {100, 200, 101, 100, 200, 0}, {100, 200, 199, 100, 200, 0},
		{0, 0, 4000, 0, 4000, 4000}, {4000, 4000, 0, 0, 4000, 4000}, {0, 0, 0, 0, 0, 0}, {4000, 4000, 4000, 4000, 4000, 0}, {0, 4000, 2000, 0, 4000, 0}, {7, 7, 8, 7, 8, 1}, {7, 7, 6, 6, 7, 1},
	} {
		p, want := usedFrom(x.first, x.last), usedFrom(x.wantFirst, x.wantLast)
		if got, by, ok := impl.ExtendUse([]impl.Postmark{p}, 7, x.day); !ok || by != x.one || !slices.Equal(got, []impl.Postmark{want}) {
			t.Errorf("ExtendUse(%v, %d) = %v, %d, %v", p, x.day, got, by, ok)
		}
		among, wantAmong := postmarksWithIds(3, 7, 999), postmarksWithIds(3, 7, 999)
		among[1], wantAmong[1] = p, want
		if got, by, ok := impl.ExtendUse(among, 7, x.day); !ok || by != x.one || !slices.Equal(got, wantAmong) {
			t.Errorf("ExtendUse(%v, %d) = %v, %d, %v", among, x.day, got, by, ok)
		}
	}
}

// checkNotExtended checks that a use cannot be extended.
func checkNotExtended(t *testing.T, list []impl.Postmark, id, day int) {
	t.Helper()
	if got, by, ok := impl.ExtendUse(list, id, day); ok || by != 0 || len(got) != 0 {
		t.Error("ExtendUse", len(list), id, day, got, by, ok)
	}
}

func TestUsesThatCannotBeExtended(t *testing.T) {
	for _, id := range append([]int{2, 3, 6, 8, 10, 998}, farCoverIds...) {
		for _, day := range []int{0, 150, 4000} {
			checkNotExtended(t, examplePostmarks, id, day)
		}
	}
	for _, day := range farDays {
		for _, p := range examplePostmarks {
			checkNotExtended(t, examplePostmarks, p.Id, day)
		}
	}
	for _, none := range [][]impl.Postmark{nil, {}} {
		checkNotExtended(t, none, 1, 100)
		checkNotExtended(t, none, 0, 0)
	}
}

func TestTownsOn(t *testing.T) {
	towns := inOrder(clearMark("bern"), clearMark("b"), clearMark("berna"), clearMark("bern"), markOf("a", "."), markOf("ber", "xx."), clearMark("bernb"), markOf("b", "."))
	for _, x := range []struct {
		list []impl.Postmark
		day  int
		want []string
	}{
		{examplePostmarks, 175, []string{"bern", "bonn"}}, {examplePostmarks, 150, []string{"ber", "bern", "bonn"}}, {examplePostmarks, 149, []string{"ber", "bern"}}, {examplePostmarks, 151, []string{"bern", "bonn"}},
		{examplePostmarks, 0, []string{"ber"}}, {examplePostmarks, 99, []string{"ber"}}, {examplePostmarks, 100, []string{"ber", "bern"}}, {examplePostmarks, 201, []string{"bonn"}}, {examplePostmarks, 300, []string{"bern", "bonn"}},
		{examplePostmarks, 301, nil}, {examplePostmarks, 3999, nil}, {examplePostmarks, 4000, []string{"zug"}},
		// Several of a Town, Towns of which one is the beginning of the other, and others of which little is seen.
		{towns, 100, []string{"a", "b", "ber", "bern", "berna", "bernb"}}, {towns, 200, []string{"a", "b", "ber", "bern", "berna", "bernb"}}, {towns, 99, nil}, {towns, 201, nil},
		{postmarksWithIds(upTo(impl.MaxPostmarks + 1)[1:]...), 150, []string{"bern"}}, {inOrder(clearMark("zug"), clearMark("ulm"), clearMark("aalen")), 150, []string{"aalen", "ulm", "zug"}},
		{inOrder(markOf("bern", "xxx."), markOf("born", "xxx.")), 150, []string{"bern", "born"}}, {inOrder(clearMark("b"), clearMark("aa"), clearMark("ab"), clearMark("a")), 150, []string{"a", "aa", "ab", "b"}},
		{nil, 0, nil}, {[]impl.Postmark{}, 4000, nil},
	} {
		if got, ok := impl.TownsOn(x.list, x.day); !ok || !slices.Equal(got, x.want) {
			t.Errorf("TownsOn(%v, %d) = %v, %v, not %v", x.list, x.day, got, ok, x.want)
		}
	}
}

func TestSameTown(t *testing.T) {
	for _, x := range []struct {
		town, lost, other, otherLost string
		want                         bool
	}{
		{"bern", "....", "bern", "....", true}, {"bern", ".x..", "bern", "x...", true}, {"bern", "xxx.", "bern", ".xxx", true}, {"bern", "....", "bonn", "....", false},
		// Lost letters hide where they differ, on the one, on the other, and on both; and one is left that they do not hide.
		{"bern", ".x..", "born", "....", true}, {"bern", "....", "born", ".x..", true}, {"bern", ".x..", "born", ".x..", true}, {"bern", "..x.", "born", "....", false}, {"bern", ".x..", "bonn", "..x.", true}, {"bern", ".x..", "bonn", "....", false}, {"bern", ".xx.", "bonn", "....", true},
		{"bern", "xxx.", "zurn", "....", true}, {"bern", "xxx.", "zurm", "....", false}, {"bern", "xxx.", "zurm", ".xxx", true}, {"b", ".", "z", ".", false}, {"b", ".", "b", ".", true},
		// Not equally long.
		{"bern", "....", "ber", "...", false}, {"ber", "...", "bern", "....", false}, {"ber", "...", "bern", "...x", false}, {"bern", "xxx.", "ber", "xx.", false}, {"b", ".", "abcdefghij", "xxxxxxxxx.", false},
		{"abcdefghij", "xxxxxxxxx.", "zzzzzzzzzj", "..........", true}, {"abcdefghij", "..........", "abcdefghiz", ".........x", true}, {"abcdefghij", "..........", "abcdefghiz", "x.........", false}, {"abcdefghij", "..........", "zbcdefghij", ".........x", false},
	} {
		list := inOrder(markOf(x.town, x.lost), clearMark("qqqq"), markOf(x.other, x.otherLost))
		for _, ids := range [][2]int{{1, 3}, {3, 1}} {
			if got, ok := impl.SameTown(list, ids[0], ids[1]); !ok || got != x.want {
				t.Errorf("SameTown(%v, %d, %d) = %v, %v", list, ids[0], ids[1], got, ok)
			}
		}
	}
	for _, p := range examplePostmarks {
		if got, ok := impl.SameTown(examplePostmarks, p.Id, p.Id); !ok || !got {
			t.Error("a postmark and itself", p, got, ok)
		}
	}
}

// checkNotCompared checks that two postmarks cannot be compared.
func checkNotCompared(t *testing.T, list []impl.Postmark, a, b int) {
	t.Helper()
	if got, ok := impl.SameTown(list, a, b); ok || got {
		t.Error("SameTown", len(list), a, b, got, ok)
	}
}

func TestPostmarksThatCannotBeCompared(t *testing.T) {
	for _, id := range append([]int{2, 3, 6, 8, 10, 998}, farCoverIds...) {
		for _, p := range examplePostmarks {
			checkNotCompared(t, examplePostmarks, id, p.Id)
			checkNotCompared(t, examplePostmarks, p.Id, id)
		}
		checkNotCompared(t, examplePostmarks, id, id)
	}
	for _, none := range [][]impl.Postmark{nil, {}} {
		checkNotCompared(t, none, 1, 1)
		checkNotCompared(t, none, 1, 4)
		checkNotCompared(t, none, 0, 0)
	}
}

func TestGapBetween(t *testing.T) {
	for _, x := range []struct {
		days [][2]int
		want int
	}{
		{[][2]int{{100, 200}}, 0}, {[][2]int{{0, 4000}}, 0}, {[][2]int{{7, 7}}, 0}, {[][2]int{{100, 200}, {250, 260}}, 49}, {[][2]int{{250, 260}, {100, 200}}, 49},
		// Uses that have a day in common, that follow each other at once, and that are one day apart and two.
		{[][2]int{{0, 10}, {10, 20}}, 0}, {[][2]int{{0, 10}, {11, 20}}, 0}, {[][2]int{{0, 10}, {12, 20}}, 1}, {[][2]int{{0, 10}, {13, 20}}, 2}, {[][2]int{{12, 20}, {0, 10}}, 1}, {[][2]int{{11, 20}, {0, 10}}, 0}, {[][2]int{{10, 10}, {12, 12}}, 1}, {[][2]int{{10, 10}, {11, 11}}, 0},
		// Uses that overlap, or lie one within the other.
		{[][2]int{{0, 10}, {5, 20}}, 0}, {[][2]int{{5, 20}, {0, 10}}, 0}, {[][2]int{{0, 100}, {20, 30}}, 0}, {[][2]int{{20, 30}, {0, 100}}, 0}, {[][2]int{{0, 10}, {0, 10}}, 0}, {[][2]int{{0, 10}, {0, 20}}, 0}, {[][2]int{{0, 20}, {10, 20}}, 0},
		{[][2]int{{0, 100}, {20, 30}, {110, 120}}, 9}, {[][2]int{{110, 120}, {20, 30}, {0, 100}}, 9}, {[][2]int{{0, 100}, {20, 30}, {40, 50}, {101, 120}}, 0}, {[][2]int{{0, 10}, {30, 40}, {5, 20}}, 9}, {[][2]int{{0, 10}, {50, 60}, {10, 50}}, 0},
		{[][2]int{{0, 10}, {20, 30}, {40, 50}}, 18}, {[][2]int{{40, 50}, {0, 10}, {20, 30}}, 18}, {[][2]int{{0, 10}, {20, 30}, {40, 50}, {8, 45}}, 0}, {[][2]int{{0, 10}, {40, 50}, {12, 38}}, 2}, {[][2]int{{0, 0}, {4000, 4000}}, 3999}, {[][2]int{{4000, 4000}, {0, 0}, {2000, 2000}}, 3998},
		{[][2]int{{0, 0}, {2, 2}, {4, 4}, {6, 6}, {8, 8}, {10, 10}, {12, 12}, {14, 14}, {16, 16}, {18, 18}, {20, 20}, {22, 22}}, 11},
	} {
		list := usesOf(x.days...)
		if got, ok := impl.GapBetween(list, "bern"); !ok || got != x.want {
			t.Errorf("GapBetween(%v) = %d, %v, not %d", x.days, got, ok, x.want)
		}
		if len(list) == impl.MaxPostmarks {
			continue
		}
		// The use of another Town, whose name begins with this one or that shows the same, fills no gap.
		for _, other := range []impl.Postmark{clearMark("berna"), clearMark("ber"), markOf("born", ".x..")} {
			other.First, other.Last = 0, impl.MaxDay
			if got, ok := impl.GapBetween(inOrder(append([]impl.Postmark{other}, list...)...), "bern"); !ok || got != x.want {
				t.Errorf("GapBetween(%v) beside %v = %d, %v, not %d", x.days, other, got, ok, x.want)
			}
		}
	}
	if got, ok := impl.GapBetween(examplePostmarks, "bern"); !ok || got != 49 {
		t.Error("gap", got, ok)
	}
	for _, town := range []string{"bonn", "ber", "zug"} {
		if got, ok := impl.GapBetween(examplePostmarks, town); !ok || got != 0 {
			t.Error("one postmark", town, got, ok)
		}
	}
}

// checkTown compares what is told of the postmarks of a town with painted days.
func checkTown(t *testing.T, list []impl.Postmark, town string) int {
	t.Helper()
	days := usedDays(list, func(p impl.Postmark) bool { return p.Town == town })
	first, last := slices.Index(days[:], true), impl.MaxDay
	if first < 0 {
		checkNoTown(t, list, town)
		return 0
	}
	for !days[last] {
		last--
	}
	unused := 0
	for _, isUsed := range days[first : last+1] {
		if !isUsed {
			unused++
		}
	}
	if got, ok := impl.GapBetween(list, town); !ok || got != unused {
		t.Fatalf("GapBetween(%v, %q) = %d, %v, not %d", list, town, got, ok, unused)
	}
	wantId := list[slices.IndexFunc(list, func(p impl.Postmark) bool { return p.Town == town && p.Last == last })].Id
	if id, day, ok := impl.LatestUse(list, town); !ok || id != wantId || day != last {
		t.Fatalf("LatestUse(%v, %q) = %d, %d, %v, not %d, %d", list, town, id, day, ok, wantId, last)
	}
	return unused
}

// checkDay compares what is told of a day with painted days.
func checkDay(t *testing.T, list []impl.Postmark, towns []string, day int) {
	t.Helper()
	want := []string{}
	for _, town := range towns {
		if usedDays(list, func(p impl.Postmark) bool { return p.Town == town })[day] {
			want = append(want, town)
		}
	}
	if got, ok := impl.TownsOn(list, day); !ok || !slices.Equal(got, want) {
		t.Fatalf("TownsOn(%v, %d) = %v, %v, not %v", list, day, got, ok, want)
	}
	for i, p := range list {
		want := slices.Clone(list)
		before := *usedDays(list, func(q impl.Postmark) bool { return q == p })
		after := before
		for d := min(p.First, day); d <= max(p.Last, day); d++ {
			after[d] = true
		}
		grown := 0
		for d := range after {
			if after[d] && !before[d] {
				grown++
			}
		}
		want[i].First = slices.Index(after[:], true)
		for want[i].Last < impl.MaxDay && after[want[i].Last+1] {
			want[i].Last++
		}
		if got, by, ok := impl.ExtendUse(list, p.Id, day); !ok || by != grown || !slices.Equal(got, want) {
			t.Fatalf("ExtendUse(%v, %d, %d) = %v, %d, %v, not %v, %d", list, p.Id, day, got, by, ok, want, grown)
		} else if read, ok := impl.ReadMarks(got, shownText(p), day); !ok || !slices.Contains(read, p.Id) {
			t.Fatal("not read on the day that was found", got, p.Id, day, read)
		}
	}
}

func TestUsesOfRandomPostmarks(t *testing.T) {
	r := rand.New(rand.NewSource(1101))
	// In ascending order: a word stands before those that begin with it.
	towns := allReadings("ab", 3)
	slices.Sort(towns)
	gaps := 0
	for range 150 {
		list := randomPostmarks(r)
		for _, town := range towns {
			if checkTown(t, list, town) > 0 {
				gaps++
			}
		}
		days := daysOfUse(list)
		for range 4 {
			checkDay(t, list, towns, days[r.Intn(len(days))])
		}
		for _, p := range list {
			for _, q := range list {
				if got, ok := impl.SameTown(list, p.Id, q.Id); !ok || got != mayBeSame(shownText(p), shownText(q)) {
					t.Fatal("SameTown", p, q, got, ok)
				}
			}
		}
	}
	if gaps < 100 {
		t.Error("few gaps", gaps)
	}
}

func TestPostmarkText(t *testing.T) {
	for _, x := range []struct {
		mark impl.Postmark
		want string
	}{
		{goodPostmark, "p7 b?rn k2 100-200"}, {examplePostmarks[0], "p1 b?rn k2 100-200"}, {examplePostmarks[2], "p5 ??r k5 0-150"}, {examplePostmarks[4], "p999 zu? k3 4000-4000"}, {clearMark("bern"), "p7 bern k2 100-200"},
		{impl.Postmark{Id: 1, Town: "a", Kind: 1, Lost: "."}, "p1 a k1 0-0"}, {impl.Postmark{Id: 12, Town: "abcdefghij", Kind: 4, First: 3, Last: 4000, Lost: "xxxxxxxxx."}, "p12 ?????????j k4 3-4000"},
	} {
		if got, ok := impl.PostmarkText(x.mark); !ok || got != x.want {
			t.Error("text", x.mark, got, ok)
		}
	}
	for _, p := range badPostmarks() {
		if got, ok := impl.PostmarkText(p); ok || got != "" {
			t.Errorf("text of none: %d %.20q %.20q = %q, %v", p.Id, p.Town, p.Lost, got, ok)
		}
	}
}

// checkNotRead checks that no postmarks are read.
func checkNotRead(t *testing.T, list []impl.Postmark, reading string, day int) {
	t.Helper()
	if got, ok := impl.ReadMarks(list, reading, day); ok || len(got) != 0 {
		t.Errorf("ReadMarks of %d, %.20q, %d = %v, %v", len(list), reading, day, got, ok)
	}
}

func TestReadingsAndDaysThatAreNone(t *testing.T) {
	for _, list := range [][]impl.Postmark{nil, {}, examplePostmarks} {
		for _, reading := range noReadings() {
			checkNotRead(t, list, reading, 150)
		}
		for _, day := range farDays {
			for _, reading := range []string{"b?rn", "????", "zug", "x"} {
				checkNotRead(t, list, reading, day)
			}
			if got, ok := impl.TownsOn(list, day); ok || len(got) != 0 {
				t.Error("TownsOn", len(list), day, got, ok)
			}
		}
	}
}

func TestListsThatAreNoPostmarks(t *testing.T) {
	for _, list := range badPostmarkLists() {
		for _, day := range []int{0, 150, 4000} {
			checkNotRead(t, list, "b?rn", day)
			checkNotRead(t, list, "????", day)
			if got, ok := impl.TownsOn(list, day); ok || len(got) != 0 {
				t.Error("TownsOn", len(list), day, got, ok)
			}
			for _, id := range []int{6, 7, 8} {
				checkNotExtended(t, list, id, day)
			}
		}
		for _, id := range []int{6, 7, 8} {
			checkNotLost(t, list, id, 0)
			checkNotLost(t, list, id, 3)
			checkNotCompared(t, list, 7, id)
			checkNotCompared(t, list, id, 7)
		}
		// The Ids and the Towns that the list has.
		for _, p := range list[:min(len(list), 3)] {
			checkNotLost(t, list, p.Id, 0)
			checkNotExtended(t, list, p.Id, 150)
			checkNotCompared(t, list, p.Id, p.Id)
			checkNoTown(t, list, p.Town)
		}
		checkNoTown(t, list, "bern")
	}
}

func TestPostmarksChangeNoArgument(t *testing.T) {
	// Behind the list there is room that is neither read nor written.
	room := append(slices.Clone(examplePostmarks), impl.Postmark{Id: 1000, Town: "bern", Kind: 2, First: 150, Last: 4000, Lost: "...."}, impl.Postmark{Id: 3, Town: "bern"})
	kept := slices.Clone(room)
	list := room[:5]
	if got, ok := impl.ReadMarks(list, "????", 150); !ok || !slices.Equal(got, []int{1, 4}) {
		t.Error("a postmark from behind the list", got, ok)
	}
	if got, ok := impl.GapBetween(list, "bern"); !ok || got != 49 {
		t.Error("a gap that is filled from behind the list", got, ok)
	}
	for _, l := range [][]impl.Postmark{list, room, list[:1], list[1:3]} {
		impl.ArePostmarks(l)
		for _, p := range room {
			for _, n := range []int{-1, 0, 1, 3, 50, 150, 4000} {
				impl.LoseLetter(l, p.Id, n)
				impl.ExtendUse(l, p.Id, n)
				impl.TownsOn(l, n)
				impl.ReadMarks(l, "b?rn", n)
			}
			impl.LatestUse(l, p.Town)
			impl.GapBetween(l, p.Town)
			impl.SameTown(l, p.Id, 1)
		}
	}
	// These would be sorted, and lists of one Town alone.
	late := usesOf([2]int{50, 60}, [2]int{0, 10}, [2]int{20, 70}, [2]int{5, 5})
	keptLate := slices.Clone(late)
	impl.GapBetween(late, "bern")
	impl.LatestUse(late, "bern")
	impl.TownsOn(late, 5)
	impl.GapBetween(late, "bonn")
	if !slices.Equal(room, kept) || !slices.Equal(late, keptLate) {
		t.Error("an argument was changed", room, late)
	}
}

func TestResultsOfPostmarksAreNew(t *testing.T) {
	list := slices.Clone(examplePostmarks)
	for range 2 {
		worn, _ := impl.LoseLetter(list, 4, 0)
		extended, by, _ := impl.ExtendUse(list, 4, 150)
		longer, _, _ := impl.ExtendUse(list, 4, 301)
		ids, _ := impl.ReadMarks(list, "????", 150)
		towns, _ := impl.TownsOn(list, 150)
		if len(worn) != 5 || worn[1].Lost != "x..." || by != 0 || !slices.Equal(extended, list) || len(longer) != 5 || longer[1].Last != 301 || !slices.Equal(ids, []int{1, 4}) || !slices.Equal(towns, []string{"ber", "bern", "bonn"}) {
			t.Error("a changed result changed what follows", worn, extended, longer, ids, towns)
		}
		for _, result := range [][]impl.Postmark{worn, extended, longer} {
			for i := range result {
				result[i] = impl.Postmark{Id: 77}
			}
			_ = append(result, impl.Postmark{Id: 78})
		}
		clear(ids)
		clear(towns)
	}
	if !slices.Equal(list, examplePostmarks) {
		t.Error("a changed result changed an argument", list)
	}
}
