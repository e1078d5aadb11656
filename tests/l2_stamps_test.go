package tests

import (
	"math"
	"math/rand"
	"slices"
	"strconv"
	"strings"
	"testing"

	"loop.example/g01062/impl"
)

// farInts are numbers that are outside every range of the document.
var farInts = []int{math.MinInt, math.MinInt + 1, -1 << 32, -100000, 1 << 20, 1 << 32, math.MaxInt - 1, math.MaxInt}

var goodStamp = impl.Stamp{Id: 12, Face: 5, Color: 7, Year: 1858}

var exampleStamps = []impl.Stamp{
	{Id: 11, Face: 5, Color: 7, Year: 1858},
	{Id: 22, Face: 3, Color: 7, Year: 1900},
	{Id: 33, Face: 12, Color: 2, Year: 1858},
}

// stampsOf makes stamps with the Ids 1, 2, 3 and so on and some faces.
func stampsOf(faces ...int) []impl.Stamp {
	var list []impl.Stamp
	for i, face := range faces {
		list = append(list, impl.Stamp{Id: i + 1, Face: face, Color: 3, Year: 1900})
	}
	return list
}

// stampsWithColors makes stamps with the Ids 1, 2, 3 and so on and some colors.
func stampsWithColors(colors ...int) []impl.Stamp {
	list := stampsOf(make([]int, len(colors))...)
	for i, c := range colors {
		list[i].Color = c
	}
	return list
}

// badStamps are not valid, each in one field.
func badStamps() []impl.Stamp {
	var list []impl.Stamp
	for _, n := range append([]int{0, 1000}, farInts...) {
		list = append(list, impl.Stamp{Id: n, Face: 5, Color: 7, Year: 1858})
	}
	for _, n := range append([]int{-1, 10000}, farInts...) {
		list = append(list, impl.Stamp{Id: 12, Face: n, Color: 7, Year: 1858})
	}
	for _, n := range append([]int{-1, 100}, farInts...) {
		list = append(list, impl.Stamp{Id: 12, Face: 5, Color: n, Year: 1858})
	}
	for _, n := range append([]int{0, 1839, 2101}, farInts...) {
		list = append(list, impl.Stamp{Id: 12, Face: 5, Color: 7, Year: n})
	}
	return append(list, impl.Stamp{})
}

// badStampLists are no Stamps.
func badStampLists() [][]impl.Stamp {
	lists := [][]impl.Stamp{
		stampsOf(make([]int, impl.MaxStamps+1)...),
		make([]impl.Stamp, 3),
		make([]impl.Stamp, 1000000),
		{{Id: 2, Face: 5, Year: 1900}, {Id: 2, Face: 6, Year: 1900}},
		{{Id: 2, Face: 5, Year: 1900}, {Id: 1, Face: 6, Year: 1900}},
		{{Id: 1, Face: 5, Year: 1900}, {Id: 3, Face: 6, Year: 1900}, {Id: 2, Face: 7, Year: 1900}},
	}
	for _, s := range badStamps() {
		lists = append(lists, []impl.Stamp{s}, []impl.Stamp{{Id: 1, Face: 1, Year: 1900}, s},
			[]impl.Stamp{s, {Id: 999, Face: 1, Year: 1900}})
	}
	return lists
}

func TestConstantsOfStamps(t *testing.T) {
	if impl.MaxStamps != 12 || impl.MaxDay != 4000 {
		t.Error("limits", impl.MaxStamps, impl.MaxDay)
	}
}

func TestIsStamp(t *testing.T) {
	for _, s := range []impl.Stamp{
		goodStamp,
		{Id: 1, Face: 0, Color: 0, Year: 1840},
		{Id: 999, Face: 9999, Color: 99, Year: 2100},
		{Id: 1, Face: 9999, Color: 0, Year: 2100},
	} {
		if !impl.IsStamp(s) {
			t.Error("a stamp", s)
		}
	}
	for _, s := range badStamps() {
		if impl.IsStamp(s) {
			t.Error("no stamp", s)
		}
	}
}

func TestAreStamps(t *testing.T) {
	for _, l := range [][]impl.Stamp{
		nil, {}, {goodStamp}, exampleStamps, stampsOf(make([]int, impl.MaxStamps)...), stampsOf(5, 5, 5),
		{{Id: 1, Year: 1840}, {Id: 999, Face: 9999, Color: 99, Year: 2100}},
	} {
		if !impl.AreStamps(l) {
			t.Error("stamps", l)
		}
	}
	for _, l := range badStampLists() {
		if impl.AreStamps(l) {
			t.Error("no stamps", len(l), l[:min(3, len(l))])
		}
	}
}

func TestFaceText(t *testing.T) {
	for face := 0; face <= 9999; face++ {
		whole, behind := strconv.Itoa(face/100), strconv.Itoa(face%100)
		want := whole + "." + strings.Repeat("0", 2-len(behind)) + behind
		if s, ok := impl.FaceText(face); !ok || s != want {
			t.Fatalf("FaceText(%d) = %q, %v", face, s, ok)
		}
	}
	for face, want := range map[int]string{0: "0.00", 5: "0.05", 50: "0.50", 100: "1.00", 1234: "12.34", 9999: "99.99"} {
		if s, ok := impl.FaceText(face); !ok || s != want {
			t.Errorf("FaceText(%d) = %q, %v", face, s, ok)
		}
	}
	for _, face := range append([]int{-1, -5, 10000}, farInts...) {
		if s, ok := impl.FaceText(face); ok || s != "" {
			t.Errorf("FaceText(%d) = %q, %v", face, s, ok)
		}
	}
}

func TestFewestStamps(t *testing.T) {
	for _, x := range []struct {
		list       []impl.Stamp
		rate, year int
		want       []int
	}{
		{exampleStamps, 13, 2100, []int{0, 0, 1}},
		{exampleStamps, 17, 1858, []int{0, 2}},
		{exampleStamps, 12, 1858, []int{2}},
		{exampleStamps, 3, 1900, []int{1}},
		// The greatest face first would need four stamps, 4 1 1 1.
		{stampsOf(1, 3, 4), 6, 2100, []int{1, 1}},
		// Several of the fewest: the smallest list of indices of them.
		{stampsOf(5, 5, 5), 10, 2100, []int{0, 0}},
		{stampsOf(3, 2, 1), 4, 2100, []int{0, 2}},
		{stampsOf(2, 1, 3), 4, 2100, []int{0, 0}},
		{stampsOf(1, 4, 2, 3), 5, 2100, []int{0, 1}},
		{stampsOf(4, 2, 3), 6, 2100, []int{0, 1}},
		{stampsOf(6, 2, 7, 4, 5), 13, 2100, []int{0, 2}},
		{stampsOf(9, 8, 7, 6, 1), 15, 2100, []int{0, 3}},
		// One without a face only adds to the number of stamps.
		{stampsOf(0, 5), 5, 2100, []int{1}},
		{stampsOf(0, 5, 0), 10, 2100, []int{1, 1}},
		{stampsOf(1), 1, 1900, []int{0}},
		{stampsOf(2000), 2000, 2100, []int{0}},
		{stampsOf(9999, 1000), 2000, 2100, []int{1, 1}},
	} {
		if got, ok := impl.FewestStamps(x.list, x.rate, x.year); !ok || !slices.Equal(got, x.want) {
			t.Errorf("FewestStamps(%v, %d, %d) = %v, %v", x.list, x.rate, x.year, got, ok)
		}
	}
}

func TestFewestStampsFails(t *testing.T) {
	for _, x := range []struct {
		list       []impl.Stamp
		rate, year int
	}{
		{nil, 5, 2100},
		{[]impl.Stamp{}, 1, 1840},
		{stampsOf(0), 1, 2100},
		{stampsOf(0, 0), 5, 2100},
		{stampsOf(5), 4, 2100},
		{stampsOf(5), 6, 2100},
		{stampsOf(6, 10), 2000 - 1, 2100},
		{stampsOf(9999), 2000, 2100},
		{exampleStamps, 13, 1858},
		{exampleStamps, 5, 1857},
		{exampleStamps, 13, 1899},
	} {
		if got, ok := impl.FewestStamps(x.list, x.rate, x.year); ok || len(got) != 0 {
			t.Errorf("FewestStamps(%v, %d, %d) = %v, %v", x.list, x.rate, x.year, got, ok)
		}
	}
}

func TestFewestStampsOfFortyAndMore(t *testing.T) {
	for _, x := range []struct {
		faces []int
		rate  int
		want  int
	}{
		{[]int{1}, 40, 40}, {[]int{1}, 41, 0}, {[]int{50}, 2000, 40}, {[]int{49}, 1960, 40}, {[]int{49}, 1999, 0},
		{[]int{7}, 280, 40}, {[]int{7}, 287, 0}, {[]int{1, 20}, 419, 39}, {[]int{1, 20}, 439, 40}, {[]int{1, 20}, 459, 0},
		{[]int{0, 7}, 280, 40}, {[]int{0, 7}, 287, 0}, {[]int{1}, 2000, 0},
	} {
		got, ok := impl.FewestStamps(stampsOf(x.faces...), x.rate, 2100)
		if ok != (x.want > 0) || len(got) != x.want {
			t.Errorf("FewestStamps of %v for %d = %v, %v", x.faces, x.rate, got, ok)
		}
	}
}

func TestFewestStampsByYear(t *testing.T) {
	list := []impl.Stamp{
		{Id: 1, Face: 10, Year: 1901}, {Id: 2, Face: 5, Year: 1900}, {Id: 3, Face: 1, Year: 1840}, {Id: 4, Face: 20, Year: 2100},
	}
	for year, want := range map[int][]int{
		1840: {2, 2, 2, 2, 2, 2, 2, 2, 2, 2, 2, 2, 2, 2, 2, 2, 2, 2, 2, 2},
		1899: {2, 2, 2, 2, 2, 2, 2, 2, 2, 2, 2, 2, 2, 2, 2, 2, 2, 2, 2, 2},
		1900: {1, 1, 1, 1}, 1901: {0, 0}, 2099: {0, 0}, 2100: {3},
	} {
		if got, ok := impl.FewestStamps(list, 20, year); !ok || !slices.Equal(got, want) {
			t.Errorf("by %d: %v, %v", year, got, ok)
		}
	}
}

// firstOf searches the frankings of just a number of stamps from an index on in lexicographic
// order for one that is taken.
func firstOf(list []impl.Stamp, from int, left int, made []int, taken func([]int) bool) []int {
	if left == 0 {
		if taken(made) {
			return slices.Clone(made)
		}
		return nil
	}
	for i := from; i < len(list); i++ {
		if got := firstOf(list, i, left-1, append(made, i), taken); got != nil {
			return got
		}
	}
	return nil
}

func valueOf(list []impl.Stamp, franking []int) int {
	value := 0
	for _, i := range franking {
		value += list[i].Face
	}
	return value
}

// randomStamps makes at most some stamps with faces up to a greatest one.
func randomStamps(r *rand.Rand, most int, face int) []impl.Stamp {
	var list []impl.Stamp
	id := 0
	for range r.Intn(most + 1) {
		id += 1 + r.Intn(70)
		list = append(list, impl.Stamp{Id: id, Face: r.Intn(face + 1), Color: r.Intn(4), Year: 1898 + r.Intn(5)})
	}
	return list
}

func TestNoFrankingHasFewerStamps(t *testing.T) {
	r := rand.New(rand.NewSource(21))
	found, failed := 0, 0
	for range 3000 {
		list := randomStamps(r, 4, 12)
		rate, year := 1+r.Intn(24), 1897+r.Intn(7)
		var want []int
		for number := 1; number <= rate && want == nil; number++ {
			want = firstOf(list, 0, number, nil, func(franking []int) bool {
				late := slices.ContainsFunc(franking, func(i int) bool { return list[i].Year > year })
				return !late && valueOf(list, franking) == rate
			})
		}
		got, ok := impl.FewestStamps(list, rate, year)
		if ok != (want != nil) || !slices.Equal(got, want) {
			t.Fatalf("FewestStamps(%v, %d, %d) = %v, %v, not %v", list, rate, year, got, ok, want)
		}
		if ok {
			found++
		} else {
			failed++
		}
	}
	if found < 500 || failed < 500 {
		t.Error("too few of a kind", found, failed)
	}
}

// canBe tells, for each number of stamps up to 40 and each index to start from, which values up
// to a rate can be had.
func canBe(list []impl.Stamp, rate int, year int) [][][]bool {
	can := make([][][]bool, 41)
	for number := range can {
		can[number] = make([][]bool, len(list)+1)
		for from := len(list); from >= 0; from-- {
			can[number][from] = make([]bool, rate+1)
			can[number][from][0] = number == 0
			for value := 0; from < len(list) && value <= rate; value++ {
				s := list[from]
				can[number][from][value] = can[number][from+1][value] ||
					number > 0 && s.Year <= year && s.Face <= value && can[number-1][from][value-s.Face]
			}
		}
	}
	return can
}

// walk follows canBe to the lexicographically smallest franking with the fewest stamps.
func walk(list []impl.Stamp, rate int, year int) []int {
	can := canBe(list, rate, year)
	number := 0
	for number <= 40 && !can[number][0][rate] {
		number++
	}
	if number > 40 {
		return nil
	}
	var franking []int
	i := 0
	for number > 0 {
		s := list[i]
		if s.Year <= year && s.Face <= rate && can[number-1][i][rate-s.Face] {
			franking = append(franking, i)
			number--
			rate -= s.Face
		} else {
			i++
		}
	}
	return franking
}

func TestNoFrankingHasFewerStampsOfLongLists(t *testing.T) {
	r := rand.New(rand.NewSource(22))
	found, failed := 0, 0
	for range 400 {
		list := randomStamps(r, impl.MaxStamps, []int{20, 60, 300, 2000, 9999}[r.Intn(5)])
		rate, year := 1+r.Intn(2000), 1897+r.Intn(7)
		want := walk(list, rate, year)
		got, ok := impl.FewestStamps(list, rate, year)
		if ok != (want != nil) || !slices.Equal(got, want) {
			t.Fatalf("FewestStamps(%v, %d, %d) = %v, %v, not %v", list, rate, year, got, ok, want)
		}
		if ok {
			found++
		} else {
			failed++
		}
	}
	if found < 50 || failed < 50 {
		t.Error("too few of a kind", found, failed)
	}
}

func TestLeastOver(t *testing.T) {
	for _, x := range []struct {
		list       []impl.Stamp
		rate, most int
		want       []int
		over       int
	}{
		{exampleStamps, 14, 2, []int{1, 2}, 1},
		{exampleStamps, 13, 2, []int{1, 2}, 2},
		{exampleStamps, 13, 3, []int{0, 0, 1}, 0},
		{exampleStamps, 1, 1, []int{1}, 2},
		{exampleStamps, 13, 1, nil, -1},
		{exampleStamps, 24, 2, []int{2, 2}, 0},
		{exampleStamps, 25, 2, nil, -1},
		{exampleStamps, 72, 6, []int{2, 2, 2, 2, 2, 2}, 0},
		{exampleStamps, 73, 6, nil, -1},
		// An excess is less the better, even where it takes more stamps.
		{stampsOf(1, 10), 6, 6, []int{0, 0, 0, 0, 0, 0}, 0},
		{stampsOf(1, 10), 6, 5, []int{1}, 4},
		// With the same excess fewer stamps are better, even where the list is greater.
		{stampsOf(2, 6), 5, 6, []int{1}, 1},
		{stampsOf(2, 3, 4), 6, 6, []int{0, 2}, 0},
		{stampsOf(4, 3, 2), 6, 6, []int{0, 2}, 0},
		{stampsOf(5, 5), 6, 2, []int{0, 0}, 4},
		{stampsOf(0, 7), 5, 6, []int{1}, 2},
		{stampsOf(9999), 1, 6, []int{0}, 9998},
		{stampsOf(9999), 2000, 1, []int{0}, 7999},
		{stampsOf(9998, 9999), 1, 6, []int{0}, 9997},
		{stampsOf(1999, 9999), 2000, 6, []int{0, 0}, 1998},
		{stampsOf(1999, 9999), 2000, 1, []int{1}, 7999},
		{stampsOf(400), 2000, 5, []int{0, 0, 0, 0, 0}, 0},
		{stampsOf(333), 1998, 6, []int{0, 0, 0, 0, 0, 0}, 0},
		{stampsOf(333), 1999, 6, nil, -1},
		{stampsOf(0), 1, 6, nil, -1},
		{nil, 1, 6, nil, -1},
	} {
		got, over, ok := impl.LeastOver(x.list, x.rate, x.most)
		if ok != (x.over >= 0) || over != max(x.over, 0) || !slices.Equal(got, x.want) {
			t.Errorf("LeastOver(%v, %d, %d) = %v, %d, %v", x.list, x.rate, x.most, got, over, ok)
		}
	}
}

func TestLeastOverAsksNoYear(t *testing.T) {
	list := []impl.Stamp{{Id: 1, Face: 4, Year: 2100}, {Id: 2, Face: 5, Year: 1840}}
	if got, over, ok := impl.LeastOver(list, 8, 6); !ok || over != 0 || !slices.Equal(got, []int{0, 0}) {
		t.Error("over", got, over, ok)
	}
	if got, ok := impl.CanFrank(list, 9); !ok || !slices.Equal(got, []int{4, 5, 8, 9}) {
		t.Error("can", got, ok)
	}
}

// leastOverOf looks at each franking.
func leastOverOf(list []impl.Stamp, rate int, most int) ([]int, int) {
	var best []int
	least := math.MaxInt
	for number := 1; number <= most; number++ {
		firstOf(list, 0, number, nil, func(franking []int) bool {
			if over := valueOf(list, franking) - rate; over >= 0 && over < least {
				best, least = slices.Clone(franking), over
			}
			return false
		})
	}
	return best, least
}

func TestNoFrankingExceedsLess(t *testing.T) {
	r := rand.New(rand.NewSource(23))
	found, failed := 0, 0
	for range 3000 {
		list := randomStamps(r, 6, []int{15, 50, 600, 9999}[r.Intn(4)])
		rate, most := 1+r.Intn([]int{20, 60, 300, 2000}[r.Intn(4)]), 1+r.Intn(6)
		want, least := leastOverOf(list, rate, most)
		got, over, ok := impl.LeastOver(list, rate, most)
		if ok != (want != nil) || !slices.Equal(got, want) || ok && over != least || !ok && over != 0 {
			t.Fatalf("LeastOver(%v, %d, %d) = %v, %d, %v, not %v", list, rate, most, got, over, ok, want)
		}
		if ok {
			found++
		} else {
			failed++
		}
	}
	if found < 500 || failed < 500 {
		t.Error("too few of a kind", found, failed)
	}
}

func TestValueOf(t *testing.T) {
	full := stampsOf(9999, 1, 2, 3, 4, 5, 6, 7, 8, 9, 10, 9999)
	for _, x := range []struct {
		list     []impl.Stamp
		franking []int
		want     int
	}{
		{exampleStamps, nil, 0},
		{exampleStamps, []int{}, 0},
		{nil, nil, 0},
		{exampleStamps, []int{0, 0, 1}, 13},
		{exampleStamps, []int{2}, 12},
		{exampleStamps, []int{0, 1, 2}, 20},
		{exampleStamps, []int{0, 2, 2, 2}, 41},
		{stampsOf(0, 0), []int{0, 0, 1}, 0},
		{stampsOf(50), make([]int, 40), 2000},
		{full, make([]int, 40), 399960},
		{full, slices.Repeat([]int{11}, 40), 399960},
		{full, []int{0, 1, 2, 3, 4, 5, 6, 7, 8, 9, 10, 11}, 20053},
	} {
		if got, ok := impl.ValueOf(x.list, x.franking); !ok || got != x.want {
			t.Errorf("ValueOf(%v, %v) = %d, %v", x.list, x.franking, got, ok)
		}
	}
}

func TestValueOfRefuses(t *testing.T) {
	for _, franking := range [][]int{
		{-1}, {3}, {0, 3}, {1, 0}, {0, 2, 1}, {2, 2, 0}, {-1, 0}, {0, 1, 2, 3}, make([]int, 41), make([]int, 1000000),
		{math.MinInt}, {math.MaxInt}, {0, math.MaxInt}, {0, math.MinInt},
	} {
		if n, ok := impl.ValueOf(exampleStamps, franking); ok || n != 0 {
			t.Errorf("ValueOf(%v) = %d, %v", franking[:min(4, len(franking))], n, ok)
		}
	}
	if n, ok := impl.ValueOf(nil, []int{0}); ok || n != 0 {
		t.Error("of no stamps", n, ok)
	}
}

func TestToldFrankingsAreFrankings(t *testing.T) {
	r := rand.New(rand.NewSource(24))
	for range 500 {
		list := randomStamps(r, impl.MaxStamps, 400)
		rate := 1 + r.Intn(2000)
		if franking, ok := impl.FewestStamps(list, rate, 2100); ok {
			if n, fine := impl.ValueOf(list, franking); !fine || n != rate {
				t.Fatalf("FewestStamps(%v, %d): %v is worth %d, %v", list, rate, franking, n, fine)
			}
		}
		if franking, over, ok := impl.LeastOver(list, rate, 6); ok {
			if n, fine := impl.ValueOf(list, franking); !fine || n != rate+over {
				t.Fatalf("LeastOver(%v, %d): %v is worth %d, %v", list, rate, franking, n, fine)
			}
		}
	}
}

func TestCanFrank(t *testing.T) {
	for _, x := range []struct {
		list []impl.Stamp
		most int
		want []int
	}{
		{exampleStamps, 10, []int{3, 5, 6, 8, 9, 10}},
		{exampleStamps, 3, []int{3}},
		{exampleStamps, 2, nil},
		{exampleStamps, 1, nil},
		{stampsOf(1), 1, []int{1}},
		{stampsOf(0), 500, nil},
		{stampsOf(0, 4), 9, []int{4, 8}},
		{stampsOf(500), 500, []int{500}},
		{stampsOf(501), 500, nil},
		{stampsOf(9999), 500, nil},
		{stampsOf(250, 200), 500, []int{200, 250, 400, 450, 500}},
		{nil, 500, nil},
	} {
		if got, ok := impl.CanFrank(x.list, x.most); !ok || !slices.Equal(got, x.want) {
			t.Errorf("CanFrank(%v, %d) = %v, %v", x.list, x.most, got, ok)
		}
	}
	// A franking of this chapter has as many stamps as it needs: only some functions count them.
	got, ok := impl.CanFrank(stampsOf(1), 500)
	if !ok || len(got) != 500 || got[0] != 1 || got[499] != 500 {
		t.Error("with many stamps", got, ok)
	}
}

func TestCanFrankIsWhatSumsGive(t *testing.T) {
	r := rand.New(rand.NewSource(25))
	for range 300 {
		list := randomStamps(r, 5, []int{12, 80, 500}[r.Intn(3)])
		most := 1 + r.Intn(500)
		sums := map[int]bool{0: true}
		for _, s := range list {
			for value := s.Face; s.Face > 0 && value <= most; value++ {
				sums[value] = sums[value] || sums[value-s.Face]
			}
		}
		var want []int
		for rate := 1; rate <= most; rate++ {
			if sums[rate] {
				want = append(want, rate)
			}
		}
		if got, ok := impl.CanFrank(list, most); !ok || !slices.Equal(got, want) {
			t.Fatalf("CanFrank(%v, %d) = %v, %v, not %v", list, most, got, ok, want)
		}
	}
}

func TestByColor(t *testing.T) {
	for _, x := range []struct {
		list []impl.Stamp
		want [][]int
	}{
		{nil, nil},
		{exampleStamps, [][]int{{33}, {11, 22}}},
		{stampsWithColors(9), [][]int{{1}}},
		{stampsWithColors(9, 9, 9), [][]int{{1, 2, 3}}},
		{stampsWithColors(99, 0, 50), [][]int{{2}, {3}, {1}}},
		{stampsWithColors(2, 1, 2, 1, 0, 2), [][]int{{5}, {2, 4}, {1, 3, 6}}},
		{stampsWithColors(3, 2, 1, 3, 2, 1, 3, 2, 1, 3, 2, 1), [][]int{{3, 6, 9, 12}, {2, 5, 8, 11}, {1, 4, 7, 10}}},
	} {
		got, ok := impl.ByColor(x.list)
		if !ok || !slices.EqualFunc(got, x.want, slices.Equal[[]int]) {
			t.Errorf("ByColor(%v) = %v, %v", x.list, got, ok)
		}
	}
}

func TestIssuedBy(t *testing.T) {
	list := []impl.Stamp{
		{Id: 3, Year: 1900}, {Id: 5, Year: 1840}, {Id: 8, Year: 2100}, {Id: 9, Year: 1901}, {Id: 12, Year: 1900},
	}
	for _, x := range []struct {
		list []impl.Stamp
		year int
		want []int
	}{
		{list, 1840, []int{5}},
		{list, 1899, []int{5}},
		{list, 1900, []int{3, 5, 12}},
		{list, 1901, []int{3, 5, 9, 12}},
		{list, 2099, []int{3, 5, 9, 12}},
		{list, 2100, []int{3, 5, 8, 9, 12}},
		{exampleStamps, 1858, []int{11, 33}},
		{exampleStamps, 1857, nil},
		{nil, 2100, nil},
	} {
		if got, ok := impl.IssuedBy(x.list, x.year); !ok || !slices.Equal(got, x.want) {
			t.Errorf("IssuedBy(%v, %d) = %v, %v", x.list, x.year, got, ok)
		}
	}
}

func TestStampText(t *testing.T) {
	for s, want := range map[impl.Stamp]string{
		goodStamp:                                    "12: 0.05 color 7 1858",
		{Id: 1, Face: 0, Color: 0, Year: 1840}:       "1: 0.00 color 0 1840",
		{Id: 999, Face: 9999, Color: 99, Year: 2100}: "999: 99.99 color 99 2100",
		{Id: 100, Face: 1000, Color: 10, Year: 1900}: "100: 10.00 color 10 1900",
		{Id: 10, Face: 110, Color: 1, Year: 2000}:    "10: 1.10 color 1 2000",
		{Id: 101, Face: 9901, Color: 20, Year: 1999}: "101: 99.01 color 20 1999",
		{Id: 7, Face: 99, Color: 9, Year: 1841}:      "7: 0.99 color 9 1841",
		{Id: 123, Face: 4567, Color: 89, Year: 2012}: "123: 45.67 color 89 2012",
	} {
		if got, ok := impl.StampText(s); !ok || got != want {
			t.Errorf("StampText(%v) = %q, %v", s, got, ok)
		}
		if got, ok := impl.ParseStamp(want); !ok || got != s {
			t.Errorf("ParseStamp(%q) = %v, %v", want, got, ok)
		}
	}
	for _, s := range badStamps() {
		if got, ok := impl.StampText(s); ok || got != "" {
			t.Errorf("StampText(%v) = %q, %v", s, got, ok)
		}
	}
}

func TestStampTextsRoundTrip(t *testing.T) {
	r := rand.New(rand.NewSource(26))
	for range 20000 {
		s := impl.Stamp{Id: 1 + r.Intn(999), Face: r.Intn(10000), Color: r.Intn(100), Year: 1840 + r.Intn(261)}
		text, ok := impl.StampText(s)
		if back, fine := impl.ParseStamp(text); !ok || !fine || back != s {
			t.Fatalf("%v: %q, %v, %v, %v", s, text, ok, back, fine)
		}
	}
}

func TestParseStampRefuses(t *testing.T) {
	for _, s := range []string{
		"", " ", ":", ": ", ": . color  ", "12", "12: ", "12: 0.05", "12: 0.05 color", "12: 0.05 color ", "12: 0.05 color 7",
		"12: 0.05 color 7 ", "12:0.05 color 7 1858", "12 : 0.05 color 7 1858", "12:  0.05 color 7 1858",
		" 12: 0.05 color 7 1858", "12: 0.05 color 7 1858 ", "12: 0.05 color 7 1858\n", "12: 0.05 color  7 1858",
		"12: 0.05 color 7  1858", "12: 0.05  color 7 1858", "12: 0.05 colour 7 1858", "12: 0.05 Color 7 1858",
		"12: 0.05 color 7 1858 1858", "12: 0.05 color 7 color 7 1858", "12: 12: 0.05 color 7 1858",
		"012: 0.05 color 7 1858", "+12: 0.05 color 7 1858", "-12: 0.05 color 7 1858", "0: 0.05 color 7 1858",
		"00: 0.05 color 7 1858", "1000: 0.05 color 7 1858", ": 0.05 color 7 1858", "x: 0.05 color 7 1858",
		"12: 0.5 color 7 1858", "12: .05 color 7 1858", "12: 0.005 color 7 1858", "12: 00.05 color 7 1858",
		"12: 0.0 color 7 1858", "12: 0. color 7 1858", "12: 0 color 7 1858", "12: 5 color 7 1858", "12: 005 color 7 1858",
		"12: 0.050 color 7 1858", "12: 01.05 color 7 1858", "12: 100.00 color 7 1858", "12: +0.05 color 7 1858",
		"12: -0.05 color 7 1858", "12: -0.00 color 7 1858", "12: 0.-5 color 7 1858", "12: 0.+5 color 7 1858",
		"12: 0,05 color 7 1858", "12: 0..05 color 7 1858", "12: 0.0.5 color 7 1858", "12: 00.5 color 7 1858",
		"12: 1.5 color 7 1858", "12: 15 color 7 1858", "12: 0.x5 color 7 1858", "12: x color 7 1858", "12:  color 7 1858",
		"12: 0.05 color 07 1858", "12: 0.05 color 00 1858", "12: 0.05 color -0 1858", "12: 0.05 color +7 1858",
		"12: 0.05 color -7 1858", "12: 0.05 color 100 1858", "12: 0.05 color x 1858", "12: 0.05 color  1858",
		"12: 0.05 color 7 1839", "12: 0.05 color 7 2101", "12: 0.05 color 7 01858", "12: 0.05 color 7 +1858",
		"12: 0.05 color 7 -1858", "12: 0.05 color 7 x", "12: 0.05 color 7 1858x", "12: 0.05 color 7 185", "12: 0.05 color 7 0",
		"12: 0.05 color 7 18446744073709553474", "18446744073709551628: 0.05 color 7 1858", "\xff: 0.05 color 7 1858",
		"12: 0.05\x00color 7 1858", "12: 0.05 color 7 \u0661858", strings.Repeat("1", 1000000),
		strings.Repeat("12: 0.05 color 7 1858", 1000), strings.Repeat("0", 5000) + "12: 0.05 color 7 1858",
	} {
		if got, ok := impl.ParseStamp(s); ok || got != (impl.Stamp{}) {
			t.Errorf("ParseStamp(%.40q) = %v, %v", s, got, ok)
		}
	}
}

// changeOneByte checks a text, and it with each byte left out, replaced and put in at each place.
func changeOneByte(text string, check func(string)) {
	check(text)
	for i := range len(text) {
		check(text[:i] + text[i+1:])
		for c := range 256 {
			b := string([]byte{byte(c)})
			check(text[:i] + b + text[i+1:])
			check(text[:i] + b + text[i:])
		}
	}
	for c := range 256 {
		check(text + string([]byte{byte(c)}))
	}
}

func TestParseStampTakesOnlyWhatStampTextWrites(t *testing.T) {
	check := func(s string) {
		got, ok := impl.ParseStamp(s)
		text, fine := impl.StampText(got)
		if ok != fine || ok && text != s || !ok && got != (impl.Stamp{}) {
			t.Fatalf("ParseStamp(%q) = %v, %v", s, got, ok)
		}
	}
	changeOneByte("12: 0.05 color 7 1858", check)
}

// checkStampsRefuse checks that each function with a list of stamps fails.
func checkStampsRefuse(t *testing.T, list []impl.Stamp, rate, year, most, limit int) {
	t.Helper()
	if l, ok := impl.FewestStamps(list, rate, year); ok || len(l) != 0 {
		t.Error("FewestStamps", list, rate, year, l, ok)
	}
	if l, n, ok := impl.LeastOver(list, rate, most); ok || len(l) != 0 || n != 0 {
		t.Error("LeastOver", list, rate, most, l, n, ok)
	}
	if l, ok := impl.CanFrank(list, limit); ok || len(l) != 0 {
		t.Error("CanFrank", list, limit, l, ok)
	}
	if l, ok := impl.IssuedBy(list, year); ok || len(l) != 0 {
		t.Error("IssuedBy", list, year, l, ok)
	}
}

func TestStampsRefuseListsThatAreNone(t *testing.T) {
	for _, list := range badStampLists() {
		checkStampsRefuse(t, list, 5, 2100, 6, 500)
		for _, franking := range [][]int{nil, {0}} {
			if n, ok := impl.ValueOf(list, franking); ok || n != 0 {
				t.Error("ValueOf", franking, n, ok)
			}
		}
		if l, ok := impl.ByColor(list); ok || len(l) != 0 {
			t.Error("ByColor", l, ok)
		}
	}
}

func TestStampsRefuseNumbers(t *testing.T) {
	far := append([]int{-1, 0}, farInts...)
	list := stampsOf(1, 2, 5)
	for _, n := range far {
		checkStampsRefuse(t, list, n, n, n, n)
	}
	for _, rate := range append([]int{2001}, far...) {
		if l, ok := impl.FewestStamps(stampsOf(1, 2001), rate, 2100); ok || len(l) != 0 {
			t.Error("FewestStamps for", rate, l, ok)
		}
		if l, n, ok := impl.LeastOver(stampsOf(1, 2001), rate, 6); ok || len(l) != 0 || n != 0 {
			t.Error("LeastOver for", rate, l, n, ok)
		}
	}
	for _, year := range append([]int{1839, 2101}, far...) {
		if l, ok := impl.FewestStamps(list, 5, year); ok || len(l) != 0 {
			t.Error("FewestStamps by", year, l, ok)
		}
		if l, ok := impl.IssuedBy(list, year); ok || len(l) != 0 {
			t.Error("IssuedBy", year, l, ok)
		}
	}
	for _, most := range append([]int{7}, far...) {
		if l, n, ok := impl.LeastOver(list, 5, most); ok || len(l) != 0 || n != 0 {
			t.Error("LeastOver with", most, l, n, ok)
		}
	}
	for _, most := range append([]int{501}, far...) {
		if l, ok := impl.CanFrank(list, most); ok || len(l) != 0 {
			t.Error("CanFrank up to", most, l, ok)
		}
	}
}

func TestStampsAtTheirLimits(t *testing.T) {
	list := []impl.Stamp{{Id: 1, Face: 1, Year: 1840}, {Id: 999, Face: 2000, Year: 2100}}
	for _, rate := range []int{1, 2000} {
		if l, ok := impl.FewestStamps(list, rate, 2100); !ok || len(l) != 1 {
			t.Error("FewestStamps", rate, l, ok)
		}
		if l, n, ok := impl.LeastOver(list, rate, 1); !ok || len(l) != 1 || n != 0 {
			t.Error("LeastOver", rate, l, n, ok)
		}
	}
	if l, ok := impl.FewestStamps(list, 1, 1840); !ok || len(l) != 1 {
		t.Error("the first year", l, ok)
	}
	if l, n, ok := impl.LeastOver(list, 6, 6); !ok || len(l) != 6 || n != 0 {
		t.Error("six stamps", l, n, ok)
	}
	if l, n, ok := impl.LeastOver(list, 7, 6); !ok || len(l) != 1 || n != 1993 {
		t.Error("seven stamps", l, n, ok)
	}
	if l, ok := impl.CanFrank(list, 1); !ok || len(l) != 1 {
		t.Error("one rate", l, ok)
	}
}

func TestStampsChangeNoArgument(t *testing.T) {
	room := []impl.Stamp{
		{Id: 5, Face: 4, Color: 9, Year: 1900}, {Id: 6, Face: 6, Color: 1, Year: 1850}, {Id: 7, Face: 5, Color: 9, Year: 1840},
		{Id: 8, Face: 7, Color: 0, Year: 1840}, {Id: 2, Face: -3, Color: 0, Year: 0},
	}
	indices := []int{0, 1, 1, 7, -1}
	list, franking := room[:3], indices[:3]
	keptRoom, keptIndices := slices.Clone(room), slices.Clone(indices)
	for _, n := range []int{-1, 1, 6, 7, 500, 1900, 2100} {
		impl.AreStamps(list)
		impl.FewestStamps(list, n, n)
		impl.FewestStamps(list, n, 2100)
		impl.LeastOver(list, n, n)
		impl.LeastOver(list, n, 6)
		impl.CanFrank(list, n)
		impl.IssuedBy(list, n)
	}
	if n, ok := impl.ValueOf(list, franking); !ok || n != 16 {
		t.Error("elements beyond the length were read", n, ok)
	}
	if l, ok := impl.CanFrank(list, 7); !ok || !slices.Equal(l, []int{4, 5, 6}) {
		t.Error("elements beyond the length were read", l, ok)
	}
	if l, ok := impl.ByColor(list); !ok || len(l) != 2 {
		t.Error("elements beyond the length were read", l, ok)
	}
	if !slices.Equal(room, keptRoom) || !slices.Equal(indices, keptIndices) {
		t.Error("an argument was changed", room, indices)
	}
}

func TestResultsOfStampsAreNew(t *testing.T) {
	first, _ := impl.ByColor(exampleStamps)
	for i := range first {
		first[i] = append(first[i][:0], make([]int, cap(first[i]))...)
	}
	second, _ := impl.ByColor(exampleStamps)
	if !slices.EqualFunc(second, [][]int{{33}, {11, 22}}, slices.Equal[[]int]) {
		t.Error("a changed result changed what follows", second)
	}
	groups, _ := impl.ByColor(stampsWithColors(1, 2, 1, 2, 1, 2))
	whole := groups[0][:cap(groups[0])]
	for i := range whole {
		whole[i] = -1
	}
	if !slices.Equal(groups[1], []int{2, 4, 6}) {
		t.Error("groups share memory", groups)
	}
}
