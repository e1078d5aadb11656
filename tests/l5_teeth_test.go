package tests

import (
	"math/rand"
	"slices"
	"strconv"
	"strings"
	"testing"

	"loop.example/g01062/impl"
)

var goodComb = impl.Comb{Id: 12, Wide: 1150, High: 1200}

var exampleCombs = []impl.Comb{
	{Id: 1, Wide: 1150, High: 1200},
	{Id: 3, Wide: 1200, High: 1150, Line: true},
	{Id: 4, Wide: 1150, High: 1150},
	{Id: 7, Wide: 1150, High: 1200, Line: true},
	{Id: 9, Wide: 1400, High: 1450},
	{Id: 99, Wide: 1450, High: 1400},
}

// goodHoles are holes, of which some have a distance, a gauge or a number at a limit.
func goodHoles() [][]int {
	return [][]int{
		{0, 1}, {0, 9999}, {9998, 9999}, {0, 200}, {0, 200, 400, 610}, {7, 207, 408}, {0, 1, 2}, {0, 5, 9999},
		rowOfHoles(40, 0, 1), rowOfHoles(40, 0, 200), rowOfHoles(40, 9960, 1), rowOfHoles(40, 3, 256),
	}
}

// rowOfHoles makes some holes with one distance.
func rowOfHoles(count, first, distance int) []int {
	var holes []int
	for i := range count {
		holes = append(holes, first+i*distance)
	}
	return holes
}

// badHoles are no holes.
func badHoles() [][]int {
	lists := [][]int{
		nil, {}, {0}, {200}, {9999}, rowOfHoles(41, 0, 200), rowOfHoles(41, 0, 1), rowOfHoles(1000000, 0, 1), make([]int, 1000000),
		// In no order.
		{200, 0}, {400, 200, 0}, {0, 400, 200}, {200, 0, 400}, {0, 200, 400, 300}, {0, 300, 200, 400}, {9999, 0},
		// Two at one place.
		{0, 0}, {200, 200}, {9999, 9999}, {0, 0, 200}, {0, 200, 200}, {0, 200, 200, 400}, slices.Repeat([]int{5}, 40),
		// Places that are none.
		{-1, 200}, {-200, -100}, {-1, 0}, {0, 10000}, {9999, 10000}, {0, 200, 10000}, {-1, 200, 10000}, {-5, 200, 400}, {0, -1, 200},
	}
	for _, n := range farInts {
		lists = append(lists, []int{n}, []int{n, 200}, []int{0, n}, []int{0, n, 400}, []int{n, n}, []int{0, 200, n}, []int{n, n + 1})
	}
	return lists
}

// farGauges are none, and not 0 either.
var farGauges = append([]int{-1, -1150, 1, 99, 499, 2001, 2100, 20000}, farInts...)

// combsOf makes combs with the Ids 1, 2, 3 and so on and some gauges, first the wide ones.
func combsOf(gauges ...[2]int) []impl.Comb {
	var list []impl.Comb
	for i, gauge := range gauges {
		list = append(list, impl.Comb{Id: i + 1, Wide: gauge[0], High: gauge[1]})
	}
	return list
}

// badCombs are not valid, each in one field.
func badCombs() []impl.Comb {
	var list []impl.Comb
	for _, n := range append([]int{-1, 0, 100}, farInts...) {
		list = append(list, impl.Comb{Id: n, Wide: 1150, High: 1200, Line: true})
	}
	for _, n := range append([]int{0}, farGauges...) {
		list = append(list, impl.Comb{Id: 12, Wide: n, High: 1200}, impl.Comb{Id: 12, Wide: 1150, High: n, Line: true})
	}
	return append(list, impl.Comb{})
}

// badCombLists are no combs.
func badCombLists() [][]impl.Comb {
	lists := [][]impl.Comb{
		combsOf(slices.Repeat([][2]int{{1150, 1200}}, impl.MaxCombs+1)...),
		make([]impl.Comb, 1),
		make([]impl.Comb, 1000000),
		{exampleCombs[1], exampleCombs[0]},
		{exampleCombs[0], exampleCombs[0]},
		{exampleCombs[0], exampleCombs[2], exampleCombs[1]},
		{exampleCombs[0], exampleCombs[2], {Id: 4, Wide: 1400, High: 1400}},
	}
	for _, x := range badCombs() {
		lists = append(lists, []impl.Comb{x}, []impl.Comb{exampleCombs[0], x}, []impl.Comb{x, exampleCombs[5]})
	}
	return lists
}

// randomGauge makes a gauge that is often near to others.
func randomGauge(r *rand.Rand) int {
	if r.Intn(4) == 0 {
		return 500 + r.Intn(1501)
	}
	return []int{500, 1000, 1150, 1900}[r.Intn(4)] + r.Intn(101)
}

// randomCombs makes at most MaxCombs combs.
func randomCombs(r *rand.Rand) []impl.Comb {
	var list []impl.Comb
	id := 0
	for range r.Intn(impl.MaxCombs + 1) {
		id += 1 + r.Intn(9)
		list = append(list, impl.Comb{Id: id, Wide: randomGauge(r), High: randomGauge(r), Line: r.Intn(2) == 0})
	}
	return list
}

// randomHoles makes some holes that leave room to be shifted.
func randomHoles(r *rand.Rand, count int) []int {
	holes := []int{r.Intn(50)}
	distance := 1 + r.Intn(190)
	for len(holes) < count {
		holes = append(holes, holes[len(holes)-1]+distance+r.Intn(1+r.Intn(40)))
	}
	return holes
}

// shifted returns holes moved by some way.
func shifted(holes []int, by int) []int {
	moved := slices.Clone(holes)
	for i := range moved {
		moved[i] += by
	}
	return moved
}

// mirrored returns holes seen from the other end of the side.
func mirrored(holes []int) []int {
	seen := slices.Clone(holes)
	for i := range seen {
		seen[i] = 9999 - seen[i]
	}
	slices.Reverse(seen)
	return seen
}

func gap(a, b int) int { return max(a-b, b-a) }

func TestConstantsOfPerforations(t *testing.T) {
	if impl.MaxCombs != 10 {
		t.Error("limit", impl.MaxCombs)
	}
}

func TestAreCombs(t *testing.T) {
	for _, l := range [][]impl.Comb{
		nil, {}, {goodComb}, exampleCombs, combsOf(slices.Repeat([][2]int{{1150, 1200}}, impl.MaxCombs)...),
		{{Id: 1, Wide: 500, High: 2000}, {Id: 99, Wide: 2000, High: 500, Line: true}}, {{Id: 98, Wide: 500, High: 500}, {Id: 99, Wide: 500, High: 500}},
	} {
		if !impl.AreCombs(l) {
			t.Error("combs", l)
		}
	}
	for i, l := range badCombLists() {
		if impl.AreCombs(l) {
			t.Error("no combs", i, len(l))
		}
	}
}

func TestGaugeOf(t *testing.T) {
	for _, x := range []struct {
		holes []int
		want  int
	}{
		{[]int{0, 200, 400, 610}, 983},
		{[]int{0, 200}, 1000},
		{[]int{0, 180, 400}, 1000},
		{[]int{0, 300}, 666},
		{[]int{0, 3, 600}, 666},
		{[]int{9799, 9999}, 1000},
		{rowOfHoles(40, 0, 200), 1000},
		{rowOfHoles(40, 100, 174), 1149},
		// Just within what a gauge may be.
		{[]int{0, 400}, 500},
		{[]int{0, 399}, 501},
		{[]int{0, 100}, 2000},
		{rowOfHoles(21, 0, 400), 500},
		{rowOfHoles(40, 0, 100), 2000},
		// It is just below 2001, and rounded down.
		{append(rowOfHoles(39, 0, 100), 3899), 2000},
	} {
		if got, ok := impl.GaugeOf(x.holes); !ok || got != x.want {
			t.Errorf("GaugeOf(%v) = %d, %v, not %d", x.holes, got, ok, x.want)
		}
	}
}

func TestHolesWithoutGauge(t *testing.T) {
	for _, holes := range [][]int{
		{0, 401}, {0, 99}, {0, 1}, {0, 9999}, {9998, 9999}, {0, 1, 9999}, rowOfHoles(40, 0, 1), rowOfHoles(40, 9960, 1),
		// It is just below 500, or 2001.
		append(rowOfHoles(20, 0, 400), 8001), append(rowOfHoles(39, 0, 100), 3898), {0, 200, 801}, {0, 100, 199},
	} {
		if got, ok := impl.GaugeOf(holes); ok || got != 0 {
			t.Errorf("GaugeOf(%v) = %d, %v", holes, got, ok)
		}
		// They are holes all the same.
		if _, ok := impl.AreEven(holes); !ok {
			t.Error("no holes", holes)
		}
		if _, ok := impl.MissingHoles(holes, 1000); !ok {
			t.Error("no holes", holes)
		}
	}
}

func TestGaugeIsTheGreatestOfItsLength(t *testing.T) {
	for count := 2; count <= 40; count++ {
		for length := count - 1; length <= 9999; length += 1 + length/50 {
			holes := append(rowOfHoles(count-1, 0, 1), length)
			got, ok := impl.GaugeOf(holes)
			teeth := 200000 * (count - 1)
			if isOne := 500*length <= teeth && teeth < 2001*length; ok != isOne {
				t.Fatalf("%d holes on %d: %d, %v", count, length, got, ok)
			}
			if ok && (got*length > teeth || (got+1)*length <= teeth) || !ok && got != 0 {
				t.Fatalf("%d holes on %d: %d, %v", count, length, got, ok)
			}
		}
	}
}

func TestShiftedHolesHaveTheSameGauge(t *testing.T) {
	r := rand.New(rand.NewSource(51))
	gauges := 0
	for range 5000 {
		holes := randomHoles(r, 2+r.Intn(39))
		last := holes[len(holes)-1]
		gauge, isOne := impl.GaugeOf(holes)
		even, ok := impl.AreEven(holes)
		missing, fine := impl.MissingHoles(holes, 1150)
		if last > 9999 {
			if isOne || ok || fine {
				t.Fatal("no holes", holes)
			}
			continue
		}
		if isOne {
			gauges++
		}
		moved := [][]int{mirrored(holes)}
		for _, by := range []int{-holes[0], r.Intn(10000 - last), 9999 - last} {
			moved = append(moved, shifted(holes, by))
		}
		for _, others := range moved {
			if got, same := impl.GaugeOf(others); same != isOne || got != gauge {
				t.Fatalf("gauges of %v and %v: %d, %v and %d, %v", holes, others, gauge, isOne, got, same)
			}
			if got, same := impl.AreEven(others); same != ok || got != even {
				t.Fatalf("%v even: %v, %v even: %v, %v", holes, even, others, got, same)
			}
			if got, same := impl.MissingHoles(others, 1150); same != fine || got != missing {
				t.Fatalf("missing in %v: %d, in %v: %d, %v", holes, missing, others, got, same)
			}
		}
	}
	if gauges < 1000 {
		t.Error("too few gauges were compared", gauges)
	}
}

func TestAreEven(t *testing.T) {
	for _, x := range []struct {
		holes []int
		want  bool
	}{
		{[]int{0, 200, 400, 610}, true},
		{[]int{0, 1}, true},
		{[]int{0, 9999}, true},
		{rowOfHoles(40, 0, 256), true},
		// The distances differ by just 10, or by 11, wherever they are.
		{[]int{0, 200, 410}, true},
		{[]int{0, 200, 411}, false},
		{[]int{0, 210, 410}, true},
		{[]int{0, 211, 411}, false},
		{[]int{0, 200, 405, 615}, true},
		{[]int{0, 200, 405, 616}, false},
		{[]int{0, 105, 206, 317}, true},
		{[]int{0, 106, 206, 317}, false},
		{[]int{5, 6, 17}, true},
		{[]int{5, 6, 18}, false},
		// No two neighboring distances differ by more than 10, but others do.
		{[]int{0, 100, 206, 318}, false},
		{[]int{0, 112, 218, 318}, false},
		{append(rowOfHoles(39, 0, 200), 7810), true},
		{append(rowOfHoles(39, 0, 200), 7811), false},
		{append(rowOfHoles(39, 0, 200), 7790), true},
		{append(rowOfHoles(39, 0, 200), 7789), false},
		{append([]int{0}, rowOfHoles(39, 190, 200)...), true},
		{append([]int{0}, rowOfHoles(39, 189, 200)...), false},
	} {
		if got, ok := impl.AreEven(x.holes); !ok || got != x.want {
			t.Errorf("AreEven(%v) = %v, %v", x.holes, got, ok)
		}
	}
}

func TestEvenHolesHaveNoTwoFarDistances(t *testing.T) {
	r := rand.New(rand.NewSource(52))
	seen := map[bool]int{}
	for range 5000 {
		holes := []int{r.Intn(100)}
		spread := 9 + r.Intn(5)
		for range 1 + r.Intn(39) {
			holes = append(holes, holes[len(holes)-1]+150+r.Intn(spread))
		}
		want := true
		for i := 1; i < len(holes); i++ {
			for j := 1; j < i; j++ {
				want = want && gap(holes[i]-holes[i-1], holes[j]-holes[j-1]) <= 10
			}
		}
		if got, ok := impl.AreEven(holes); !ok || got != want {
			t.Fatalf("AreEven(%v) = %v, %v", holes, got, ok)
		}
		seen[want]++
	}
	if seen[true] < 500 || seen[false] < 500 {
		t.Error("too few", seen)
	}
}

func TestMissingHoles(t *testing.T) {
	for _, x := range []struct {
		holes       []int
		gauge, want int
	}{
		{[]int{0, 200, 600}, 1000, 1},
		{[]int{0, 200, 400}, 1000, 0},
		{[]int{0, 200, 800, 1600}, 1000, 5},
		// Just one half is rounded up.
		{[]int{0, 300}, 1000, 1},
		{[]int{0, 299}, 1000, 0},
		{[]int{0, 500}, 1000, 2},
		{[]int{0, 499}, 1000, 1},
		{[]int{0, 501}, 1000, 2},
		{[]int{0, 100}, 1000, 0},
		{[]int{0, 600}, 500, 1},
		{[]int{0, 599}, 500, 0},
		{[]int{0, 150}, 2000, 1},
		{[]int{0, 149}, 2000, 0},
		{[]int{0, 250}, 1200, 1},
		{[]int{0, 249}, 1200, 0},
		{[]int{0, 250}, 1199, 0},
		// Each distance is rounded for itself, and one that is smaller than that of the gauge takes nothing away.
		{[]int{0, 300, 600, 900}, 1000, 3},
		{[]int{0, 299, 598, 897}, 1000, 0},
		{[]int{0, 50, 650}, 1000, 2},
		{[]int{0, 600, 650}, 1000, 2},
		{[]int{0, 1, 2, 3, 403}, 1000, 1},
		{[]int{0, 99}, 1000, 0},
		{[]int{0, 1}, 500, 0},
		{[]int{9998, 9999}, 2000, 0},
		{rowOfHoles(40, 0, 1), 500, 0},
		{rowOfHoles(40, 0, 100), 500, 0},
		{[]int{0, 9999}, 500, 24},
		{[]int{0, 9999}, 2000, 99},
		{rowOfHoles(40, 0, 250), 2000, 78},
		{rowOfHoles(40, 15, 256), 2000, 78},
	} {
		if got, ok := impl.MissingHoles(x.holes, x.gauge); !ok || got != x.want {
			t.Errorf("MissingHoles(%v, %d) = %d, %v, not %d", x.holes, x.gauge, got, ok, x.want)
		}
	}
}

func TestMissingHolesAreThoseThatWereTakenOut(t *testing.T) {
	r := rand.New(rand.NewSource(53))
	for range 3000 {
		distance := []int{100, 125, 160, 200, 250, 320, 400}[r.Intn(7)]
		gauge := 200000 / distance
		holes := rowOfHoles(2+r.Intn(24), r.Intn(100), distance)
		left := []int{holes[0]}
		for _, hole := range holes[1 : len(holes)-1] {
			if r.Intn(3) > 0 {
				left = append(left, hole)
			}
		}
		left = append(left, holes[len(holes)-1])
		if got, ok := impl.MissingHoles(left, gauge); !ok || got != len(holes)-len(left) {
			t.Fatalf("MissingHoles(%v, %d) = %d, %v", left, gauge, got, ok)
		}
	}
}

func TestMissingHolesOfEachDistance(t *testing.T) {
	for gauge := 500; gauge <= 2000; gauge += 25 {
		for distance := 1; distance <= 3333; distance++ {
			// One more is missing from each further half tooth on.
			want := 0
			for (2*want+3)*100000 <= distance*gauge {
				want++
			}
			if got, ok := impl.MissingHoles([]int{5, 5 + distance}, gauge); !ok || got != want {
				t.Fatalf("MissingHoles at %d of %d: %d, %v, not %d", distance, gauge, got, ok, want)
			}
			if got, ok := impl.MissingHoles(rowOfHoles(4, 0, distance), gauge); !ok || got != 3*want {
				t.Fatalf("MissingHoles three times at %d of %d: %d, %v, not %d", distance, gauge, got, ok, 3*want)
			}
		}
	}
}

func TestMatchCombs(t *testing.T) {
	few := combsOf([2]int{1000, 1400}, [2]int{1100, 1400}, [2]int{1000, 1500}, [2]int{1101, 1400}, [2]int{1000, 1501})
	for _, x := range []struct {
		list            []impl.Comb
		wide, high, off int
		want            []int
	}{
		{exampleCombs, 1150, 1200, 0, []int{1, 7}},
		{exampleCombs, 1200, 1150, 0, []int{3}},
		{exampleCombs, 1150, 1150, 0, []int{4}},
		{exampleCombs, 1200, 1200, 0, nil},
		{exampleCombs, 1150, 1200, 50, []int{1, 3, 4, 7}},
		{exampleCombs, 1150, 1200, 49, []int{1, 7}},
		{exampleCombs, 1175, 1175, 25, []int{1, 3, 4, 7}},
		{exampleCombs, 1175, 1175, 24, nil},
		{exampleCombs, 1425, 1425, 25, []int{9, 99}},
		// One gauge is not known, or none is.
		{exampleCombs, 0, 1200, 0, []int{1, 7}},
		{exampleCombs, 1150, 0, 0, []int{1, 4, 7}},
		{exampleCombs, 0, 1200, 50, []int{1, 3, 4, 7}},
		{exampleCombs, 0, 0, 0, []int{1, 3, 4, 7, 9, 99}},
		{exampleCombs, 0, 0, 100, []int{1, 3, 4, 7, 9, 99}},
		{exampleCombs, 0, 2000, 100, nil},
		{exampleCombs, 500, 0, 100, nil},
		// The error is met exactly from both sides, or exceeded by one.
		{few, 1000, 1400, 100, []int{1, 2, 3}},
		{few, 1100, 1500, 100, []int{1, 2, 3, 4, 5}},
		{few, 1101, 1501, 100, nil},
		{few, 1050, 1450, 50, []int{1, 2, 3}},
		{few, 1051, 1450, 50, []int{2, 4}},
		{few, 1050, 1451, 50, []int{3, 5}},
		{few, 1051, 1400, 51, []int{1, 2, 4}},
		{few, 1000, 0, 100, []int{1, 2, 3, 5}},
		{few, 0, 1400, 100, []int{1, 2, 3, 4}},
		{combsOf([2]int{500, 2000}, [2]int{600, 1900}, [2]int{601, 1900}, [2]int{600, 1899}), 500, 2000, 100, []int{1, 2}},
		{combsOf(slices.Repeat([][2]int{{1400, 1400}}, 10)...), 1400, 1400, 0, []int{1, 2, 3, 4, 5, 6, 7, 8, 9, 10}},
		{nil, 1150, 1200, 100, nil},
		{[]impl.Comb{}, 0, 0, 0, nil},
	} {
		if got, ok := impl.MatchCombs(x.list, x.wide, x.high, x.off); !ok || !slices.Equal(got, x.want) {
			t.Errorf("MatchCombs(%v, %d, %d, %d) = %v, %v", x.list, x.wide, x.high, x.off, got, ok)
		}
	}
}

func TestTurnedCombs(t *testing.T) {
	for _, x := range []struct {
		list            []impl.Comb
		wide, high, off int
		want            []int
	}{
		{exampleCombs, 1150, 1200, 0, []int{3}},
		{exampleCombs, 1200, 1150, 0, []int{1, 7}},
		{exampleCombs, 1400, 1450, 0, []int{99}},
		{exampleCombs, 1450, 1400, 0, []int{9}},
		// They match both ways.
		{exampleCombs, 1150, 1150, 0, nil},
		{exampleCombs, 1150, 1200, 50, nil},
		{exampleCombs, 1175, 1175, 25, nil},
		{exampleCombs, 1425, 1425, 25, nil},
		{combsOf([2]int{1400, 1400}), 1400, 1400, 0, nil},
		{combsOf([2]int{1400, 1400}), 1400, 1300, 100, nil},
		// They match neither way.
		{exampleCombs, 1200, 1200, 0, nil},
		{combsOf([2]int{1400, 1400}), 1400, 1300, 99, nil},
		// The error is met exactly, or exceeded by one.
		{exampleCombs, 1150, 1200, 49, []int{3}},
		{exampleCombs, 1100, 1250, 50, []int{3}},
		{exampleCombs, 1099, 1250, 50, nil},
		{exampleCombs, 1100, 1251, 50, nil},
		{combsOf([2]int{2000, 500}, [2]int{1900, 600}, [2]int{1899, 600}, [2]int{1900, 601}), 500, 2000, 100, []int{1, 2}},
		// One gauge is not known, or none is.
		{exampleCombs, 0, 1200, 0, []int{3}},
		{exampleCombs, 1200, 0, 0, []int{1, 7}},
		{exampleCombs, 1150, 0, 0, []int{3}},
		{exampleCombs, 0, 1150, 0, []int{1, 7}},
		{exampleCombs, 0, 1450, 0, []int{99}},
		{exampleCombs, 0, 0, 0, nil},
		{exampleCombs, 0, 0, 100, nil},
		{combsOf(slices.Repeat([][2]int{{1400, 1200}}, 10)...), 1200, 1400, 100, []int{1, 2, 3, 4, 5, 6, 7, 8, 9, 10}},
		{nil, 1150, 1200, 100, nil},
		{[]impl.Comb{}, 0, 0, 0, nil},
	} {
		if got, ok := impl.TurnedCombs(x.list, x.wide, x.high, x.off); !ok || !slices.Equal(got, x.want) {
			t.Errorf("TurnedCombs(%v, %d, %d, %d) = %v, %v", x.list, x.wide, x.high, x.off, got, ok)
		}
	}
}

// isNearTo tells whether a gauge is within an error of a measured one, or nothing was measured.
func isNearTo(gauge, measured, off int) bool {
	return measured == 0 || gap(gauge, measured) <= off
}

// measure makes a measured gauge, often one of a comb, and sometimes an unknown one.
func measure(r *rand.Rand, list []impl.Comb) int {
	if r.Intn(5) == 0 {
		return 0
	}
	if len(list) == 0 || r.Intn(2) == 0 {
		return randomGauge(r)
	}
	x := list[r.Intn(len(list))]
	return min(2000, max(500, []int{x.Wide, x.High}[r.Intn(2)]+r.Intn(41)-20))
}

func TestTurnedCombsMatchTheExchangedGaugesAlone(t *testing.T) {
	r := rand.New(rand.NewSource(54))
	matched, turned := 0, 0
	for range 20000 {
		list := randomCombs(r)
		wide, high, off := measure(r, list), measure(r, list), []int{0, r.Intn(30), r.Intn(101), 100}[r.Intn(4)]
		var match, turn []int
		for _, x := range list {
			asIs := isNearTo(x.Wide, wide, off) && isNearTo(x.High, high, off)
			exchanged := isNearTo(x.Wide, high, off) && isNearTo(x.High, wide, off)
			if asIs {
				match = append(match, x.Id)
			}
			if exchanged && !asIs {
				turn = append(turn, x.Id)
			}
		}
		if got, ok := impl.MatchCombs(list, wide, high, off); !ok || !slices.Equal(got, match) {
			t.Fatalf("MatchCombs(%v, %d, %d, %d) = %v, %v, not %v", list, wide, high, off, got, ok, match)
		}
		got, ok := impl.TurnedCombs(list, wide, high, off)
		if !ok || !slices.Equal(got, turn) {
			t.Fatalf("TurnedCombs(%v, %d, %d, %d) = %v, %v, not %v", list, wide, high, off, got, ok, turn)
		}
		exchanged, ok := impl.MatchCombs(list, high, wide, off)
		for _, id := range got {
			if !ok || !slices.Contains(exchanged, id) || slices.Contains(match, id) {
				t.Fatalf("the turned comb %d of %v at %d, %d, %d", id, list, wide, high, off)
			}
		}
		matched += len(match)
		turned += len(turn)
	}
	if matched < 1000 || turned < 1000 {
		t.Error("too few", matched, turned)
	}
}

func TestCombsRefuseNumbers(t *testing.T) {
	refused := func(wide, high, off int) {
		t.Helper()
		for _, list := range [][]impl.Comb{nil, exampleCombs} {
			if got, ok := impl.MatchCombs(list, wide, high, off); ok || len(got) != 0 {
				t.Errorf("MatchCombs for %d, %d, %d = %v, %v", wide, high, off, got, ok)
			}
			if got, ok := impl.TurnedCombs(list, wide, high, off); ok || len(got) != 0 {
				t.Errorf("TurnedCombs for %d, %d, %d = %v, %v", wide, high, off, got, ok)
			}
		}
	}
	for _, n := range farGauges {
		refused(n, 1200, 10)
		refused(1150, n, 10)
		refused(n, 0, 10)
		refused(0, n, 10)
		refused(n, n, 100)
	}
	for _, off := range append([]int{-100, -1, 101}, farInts...) {
		refused(1150, 1200, off)
		refused(0, 0, off)
	}
	for _, n := range farInts {
		refused(n, n, n)
	}
}

func TestHolesOn(t *testing.T) {
	for _, x := range []struct{ length, gauge, want int }{
		{2000, 1150, 12}, {2000, 1199, 12}, {2000, 1200, 13}, {2000, 1000, 11}, {1999, 1000, 10}, {2001, 1000, 11}, {2199, 1000, 11},
		{2200, 1000, 12}, {500, 500, 2}, {500, 799, 2}, {500, 800, 3}, {799, 500, 2}, {800, 500, 3}, {500, 2000, 6}, {9999, 500, 25},
		{9999, 2000, 100}, {9900, 2000, 100}, {9899, 2000, 99}, {9999, 1999, 100}, {9999, 1980, 99}, {600, 1000, 4}, {599, 1000, 3},
	} {
		if got, ok := impl.HolesOn(x.length, x.gauge); !ok || got != x.want {
			t.Errorf("HolesOn(%d, %d) = %d, %v, not %d", x.length, x.gauge, got, ok, x.want)
		}
	}
}

func TestHolesOnIsTheGreatestNumber(t *testing.T) {
	for length := 500; length <= 9999; length += 1 + length/90 {
		for gauge := 500; gauge <= 2000; gauge++ {
			got, ok := impl.HolesOn(length, gauge)
			// The last hole is on the side, and one more would not be.
			if !ok || (got-1)*200000 > length*gauge || got*200000 <= length*gauge {
				t.Fatalf("HolesOn(%d, %d) = %d, %v", length, gauge, got, ok)
			}
		}
	}
}

func TestHolesOnRefusesNumbers(t *testing.T) {
	refused := func(length, gauge int) {
		t.Helper()
		if got, ok := impl.HolesOn(length, gauge); ok || got != 0 {
			t.Errorf("HolesOn(%d, %d) = %d, %v", length, gauge, got, ok)
		}
	}
	for _, length := range append([]int{-2000, -1, 0, 1, 499, 10000}, farInts...) {
		refused(length, 1150)
		refused(length, 500)
		refused(length, 2000)
		refused(length, length)
	}
	for _, gauge := range append([]int{0}, farGauges...) {
		refused(2000, gauge)
		refused(500, gauge)
		refused(9999, gauge)
	}
}

func TestIsPair(t *testing.T) {
	for _, x := range []struct {
		a, b []int
		off  int
		want bool
	}{
		{[]int{0, 200, 400}, []int{7, 207, 408}, 1, true},
		{[]int{0, 200, 400}, []int{7, 207, 408}, 0, false},
		{[]int{0, 200, 400}, []int{7, 207, 407}, 0, true},
		{[]int{0, 200, 400}, []int{9599, 9799, 9999}, 0, true},
		// The error is met exactly from both sides, or exceeded by one.
		{[]int{0, 200, 400}, []int{0, 250, 400}, 50, true},
		{[]int{0, 200, 400}, []int{0, 251, 400}, 50, false},
		{[]int{0, 200, 400}, []int{0, 150, 400}, 50, true},
		{[]int{0, 200, 400}, []int{0, 149, 400}, 50, false},
		{[]int{0, 200, 400}, []int{3, 203, 453}, 50, true},
		{[]int{0, 200, 400}, []int{3, 203, 454}, 50, false},
		{[]int{0, 1}, []int{0, 51}, 50, true},
		{[]int{0, 1}, []int{0, 52}, 50, false},
		{[]int{0, 9999}, []int{0, 9949}, 50, true},
		{[]int{0, 9999}, []int{0, 9948}, 50, false},
		{[]int{0, 1}, []int{9998, 9999}, 0, true},
		{[]int{0, 1}, []int{9997, 9999}, 0, false},
		// All distances are those of the first hole, which add up the errors of the others.
		{[]int{0, 200, 400, 600}, []int{0, 205, 410, 615}, 15, true},
		{[]int{0, 200, 400, 600}, []int{0, 205, 410, 615}, 14, false},
		{[]int{0, 200, 400, 600}, []int{0, 205, 400, 605}, 5, true},
		{[]int{0, 200, 400, 600}, []int{0, 205, 400, 605}, 4, false},
		{[]int{0, 200, 400}, []int{5, 200, 400}, 5, true},
		{[]int{0, 200, 400}, []int{5, 200, 400}, 4, false},
		// The same distances from the other end are not the same ones.
		{[]int{0, 200, 300}, []int{0, 100, 300}, 50, false},
		{[]int{0, 200, 300}, []int{0, 150, 300}, 50, true},
		{rowOfHoles(40, 0, 200), rowOfHoles(40, 99, 200), 0, true},
		{rowOfHoles(40, 0, 200), rowOfHoles(40, 99, 201), 39, true},
		{rowOfHoles(40, 0, 200), rowOfHoles(40, 99, 201), 38, false},
	} {
		if got, ok := impl.IsPair(x.a, x.b, x.off); !ok || got != x.want {
			t.Errorf("IsPair(%v, %v, %d) = %v, %v", x.a, x.b, x.off, got, ok)
		}
		if got, ok := impl.IsPair(x.b, x.a, x.off); !ok || got != x.want {
			t.Errorf("exchanged, IsPair(%v, %v, %d) = %v, %v", x.b, x.a, x.off, got, ok)
		}
	}
}

func TestPairsAreWithinTheErrorAlone(t *testing.T) {
	r := rand.New(rand.NewSource(55))
	seen := map[bool]int{}
	for range 10000 {
		a := randomHoles(r, 2+r.Intn(20))
		b := shifted(a, r.Intn(500))
		for range r.Intn(3) {
			b[r.Intn(len(b))] += r.Intn(9)
		}
		off := r.Intn(8)
		worst := 0
		for i := range a {
			worst = max(worst, gap(a[i]-a[0], b[i]-b[0]))
		}
		strictly := slices.IsSorted(b) && len(slices.Compact(slices.Clone(b))) == len(b)
		got, ok := impl.IsPair(a, b, off)
		if ok != strictly || got != (ok && worst <= off) {
			t.Fatalf("IsPair(%v, %v, %d) = %v, %v", a, b, off, got, ok)
		}
		seen[got]++
	}
	if seen[true] < 1000 || seen[false] < 1000 {
		t.Error("too few", seen)
	}
}

func TestIsPairFails(t *testing.T) {
	refused := func(a, b []int, off int) {
		t.Helper()
		if got, ok := impl.IsPair(a, b, off); ok || got {
			t.Errorf("IsPair of %d and %d holes, %d = %v, %v", len(a), len(b), off, got, ok)
		}
	}
	sides := [][]int{{0, 200}, {0, 200, 400}, {0, 200, 400, 600}, rowOfHoles(39, 0, 200), rowOfHoles(40, 0, 200)}
	for i, a := range sides {
		for j, b := range sides {
			if i != j {
				refused(a, b, 50)
				refused(a, b, 0)
			}
		}
	}
	for _, off := range append([]int{-50, -1, 51}, farInts...) {
		refused([]int{0, 200}, []int{0, 200}, off)
		refused([]int{0, 200}, []int{0, 200, 400}, off)
	}
	for _, bad := range badHoles() {
		refused(bad, bad, 50)
		refused(bad, []int{0, 200}, 50)
		refused([]int{0, 200}, bad, 50)
		refused(bad, []int{0, 200, 400}, 50)
		refused([]int{0, 200, 400}, bad, 50)
	}
}

func TestHolesThatAreNone(t *testing.T) {
	for _, holes := range goodHoles() {
		if _, ok := impl.AreEven(holes); !ok {
			t.Error("no holes", holes)
		}
		if _, ok := impl.MissingHoles(holes, 1150); !ok {
			t.Error("no holes", holes)
		}
		if got, ok := impl.IsPair(holes, holes, 0); !ok || !got {
			t.Error("no pair with themselves", holes)
		}
	}
	for i, holes := range badHoles() {
		if got, ok := impl.GaugeOf(holes); ok || got != 0 {
			t.Error("GaugeOf", i, got, ok)
		}
		if got, ok := impl.AreEven(holes); ok || got {
			t.Error("AreEven", i, got, ok)
		}
		for _, gauge := range []int{500, 1150, 2000, 0} {
			if got, ok := impl.MissingHoles(holes, gauge); ok || got != 0 {
				t.Error("MissingHoles", i, got, ok)
			}
		}
	}
	for _, gauge := range append([]int{0}, farGauges...) {
		for _, holes := range goodHoles() {
			if got, ok := impl.MissingHoles(holes, gauge); ok || got != 0 {
				t.Errorf("MissingHoles(%v, %d) = %d, %v", holes, gauge, got, ok)
			}
		}
	}
}

func TestGaugeText(t *testing.T) {
	for gauge, want := range map[int]string{
		1150: "11.5", 1105: "11.05", 1111: "11.11", 1110: "11.1", 1101: "11.01", 1200: "12", 1000: "10", 1010: "10.1", 1001: "10.01",
		1100: "11", 1090: "10.9", 1099: "10.99", 500: "5", 501: "5.01", 510: "5.1", 505: "5.05", 600: "6", 999: "9.99", 990: "9.9",
		1999: "19.99", 1990: "19.9", 2000: "20", 1900: "19", 1500: "15",
	} {
		if got, ok := impl.GaugeText(gauge); !ok || got != want {
			t.Errorf("GaugeText(%d) = %q, %v, not %q", gauge, got, ok, want)
		}
	}
	for _, gauge := range append([]int{0, -500}, farGauges...) {
		if got, ok := impl.GaugeText(gauge); ok || got != "" {
			t.Errorf("GaugeText(%d) = %q, %v", gauge, got, ok)
		}
	}
}

func TestGaugeTextsTellTheirGauges(t *testing.T) {
	for gauge := 500; gauge <= 2000; gauge++ {
		text, ok := impl.GaugeText(gauge)
		whole, behind, pointed := strings.Cut(text, ".")
		if pointed != (gauge%100 != 0) || strings.HasPrefix(whole, "0") || pointed && strings.HasSuffix(behind, "0") {
			t.Fatalf("GaugeText(%d) = %q, %v", gauge, text, ok)
		}
		told, err := strconv.Atoi(whole + (behind + "00")[:2])
		if !ok || err != nil || told != gauge || len(behind) > 2 {
			t.Fatalf("GaugeText(%d) = %q, %v", gauge, text, ok)
		}
	}
}

func TestCombText(t *testing.T) {
	for x, want := range map[impl.Comb]string{
		goodComb:                        "c12 11.5 x 12",
		exampleCombs[1]:                 "c3 12 x 11.5 line",
		{Id: 4, Wide: 1150, High: 1150}: "c4 11.5",
		{Id: 4, Wide: 1150, High: 1150, Line: true}:  "c4 11.5 line",
		{Id: 1, Wide: 500, High: 2000}:               "c1 5 x 20",
		{Id: 99, Wide: 2000, High: 500, Line: true}:  "c99 20 x 5 line",
		{Id: 99, Wide: 2000, High: 2000}:             "c99 20",
		{Id: 10, Wide: 1105, High: 1106, Line: true}: "c10 11.05 x 11.06 line",
		{Id: 10, Wide: 1110, High: 1111}:             "c10 11.1 x 11.11",
		{Id: 7, Wide: 1000, High: 1000, Line: true}:  "c7 10 line",
	} {
		if got, ok := impl.CombText(x); !ok || got != want {
			t.Errorf("CombText(%v) = %q, %v, not %q", x, got, ok, want)
		}
	}
	for _, x := range badCombs() {
		if got, ok := impl.CombText(x); ok || got != "" {
			t.Errorf("CombText(%v) = %q, %v", x, got, ok)
		}
	}
}

func TestSameGauges(t *testing.T) {
	same := [2]int{1400, 1400}
	for _, x := range []struct {
		list []impl.Comb
		want [][]int
	}{
		{exampleCombs, [][]int{{1, 7}, {3}, {4}, {9}, {99}}},
		{nil, nil},
		{[]impl.Comb{}, nil},
		{[]impl.Comb{goodComb}, [][]int{{12}}},
		{combsOf(slices.Repeat([][2]int{same}, 10)...), [][]int{{1, 2, 3, 4, 5, 6, 7, 8, 9, 10}}},
		// Exchanged gauges are not the same.
		{combsOf([2]int{1200, 1150}, [2]int{1150, 1200}, [2]int{1200, 1150}, [2]int{1150, 1200}), [][]int{{1, 3}, {2, 4}}},
		// One of both is not enough, and the order is that of the Ids, not of the gauges.
		{combsOf([2]int{1400, 1200}, [2]int{1400, 1100}, [2]int{1300, 1200}, same), [][]int{{1}, {2}, {3}, {4}}},
		{combsOf([2]int{1500, 1500}, same, [2]int{1300, 1300}, [2]int{1500, 1500}, [2]int{1300, 1300}, same, same, [2]int{1300, 1300}),
			[][]int{{1, 4}, {2, 6, 7}, {3, 5, 8}}},
		{combsOf(same, [2]int{1400, 1401}, same, [2]int{1401, 1400}), [][]int{{1, 3}, {2}, {4}}},
	} {
		if got, ok := impl.SameGauges(x.list); !ok || !slices.EqualFunc(got, x.want, slices.Equal[[]int]) {
			t.Errorf("SameGauges(%v) = %v, %v", x.list, got, ok)
		}
	}
}

func TestCombsAreInOneGroupEach(t *testing.T) {
	r := rand.New(rand.NewSource(56))
	for range 5000 {
		list := randomCombs(r)
		for i := range list {
			if r.Intn(2) == 0 {
				list[i].Wide, list[i].High = 1100+100*r.Intn(2), 1100+100*r.Intn(2)
			}
		}
		groupOf := map[[2]int]int{}
		var want [][]int
		for _, x := range list {
			gauges := [2]int{x.Wide, x.High}
			if _, ok := groupOf[gauges]; !ok {
				groupOf[gauges] = len(want)
				want = append(want, nil)
			}
			want[groupOf[gauges]] = append(want[groupOf[gauges]], x.Id)
		}
		if got, ok := impl.SameGauges(list); !ok || !slices.EqualFunc(got, want, slices.Equal[[]int]) {
			t.Fatalf("SameGauges(%v) = %v, %v, not %v", list, got, ok, want)
		}
	}
}

func TestCombsRefuseListsThatAreNone(t *testing.T) {
	for i, list := range badCombLists() {
		for _, x := range [][3]int{{1150, 1200, 100}, {0, 0, 0}, {1200, 1150, 0}} {
			if got, ok := impl.MatchCombs(list, x[0], x[1], x[2]); ok || len(got) != 0 {
				t.Error("MatchCombs", i, got, ok)
			}
			if got, ok := impl.TurnedCombs(list, x[0], x[1], x[2]); ok || len(got) != 0 {
				t.Error("TurnedCombs", i, got, ok)
			}
		}
		if got, ok := impl.SameGauges(list); ok || len(got) != 0 {
			t.Error("SameGauges", i, got, ok)
		}
	}
}

func TestCombsChangeNoArgument(t *testing.T) {
	room := append(slices.Clone(exampleCombs[:4]), impl.Comb{Id: 8, Wide: 1200, High: 1150}, impl.Comb{Id: -3})
	list := room[:4]
	kept := slices.Clone(room)
	if !impl.AreCombs(list) {
		t.Error("combs")
	}
	if l, ok := impl.MatchCombs(list, 1150, 1200, 0); !ok || !slices.Equal(l, []int{1, 7}) {
		t.Error("matched", l, ok)
	}
	if l, ok := impl.TurnedCombs(list, 1150, 1200, 0); !ok || !slices.Equal(l, []int{3}) {
		t.Error("turned", l, ok)
	}
	if l, ok := impl.SameGauges(list); !ok || !slices.EqualFunc(l, [][]int{{1, 7}, {3}, {4}}, slices.Equal[[]int]) {
		t.Error("groups", l, ok)
	}
	impl.MatchCombs(room, 0, 0, 0)
	impl.TurnedCombs(list, 1, 1150, 0)
	impl.SameGauges(room)
	if !slices.Equal(room, kept) {
		t.Error("an argument was changed", room)
	}
}

func TestHolesAreNotChanged(t *testing.T) {
	room := []int{0, 200, 400, 405, -1}
	others := []int{7, 207, 408, 9, 10000}
	kept, keptOthers := slices.Clone(room), slices.Clone(others)
	if gauge, ok := impl.GaugeOf(room[:3]); !ok || gauge != 1000 {
		t.Error("gauge", gauge, ok)
	}
	if even, ok := impl.AreEven(room[:3]); !ok || !even {
		t.Error("even", even, ok)
	}
	if missing, ok := impl.MissingHoles(room[:3], 2000); !ok || missing != 2 {
		t.Error("missing", missing, ok)
	}
	if pair, ok := impl.IsPair(room[:3], others[:3], 1); !ok || !pair {
		t.Error("pair", pair, ok)
	}
	impl.GaugeOf(room)
	impl.AreEven(others)
	impl.MissingHoles(others, 1150)
	impl.IsPair(room, others, 50)
	if !slices.Equal(room, kept) || !slices.Equal(others, keptOthers) {
		t.Error("an argument was changed", room, others)
	}
}

func TestResultsOfCombsAreNew(t *testing.T) {
	list := slices.Clone(exampleCombs)
	want := [][]int{{1, 7}, {3}, {4}, {9}, {99}}
	groups, _ := impl.SameGauges(list)
	ids, _ := impl.MatchCombs(list, 0, 0, 0)
	for i := range ids {
		ids[i] = -1
	}
	for i := range groups {
		_ = append(groups[i], -1)
		if !slices.EqualFunc(groups, want, slices.Equal[[]int]) {
			t.Fatal("what was appended to one group is in another one", i, groups)
		}
	}
	for i := range groups {
		groups[i][0] = -1
	}
	if !slices.Equal(list, exampleCombs) {
		t.Error("a changed result changed an argument", list)
	}
	if again, ok := impl.SameGauges(list); !ok || !slices.EqualFunc(again, want, slices.Equal[[]int]) {
		t.Error("a changed result changed what follows", again, ok)
	}
	if again, ok := impl.MatchCombs(list, 0, 0, 0); !ok || !slices.Equal(again, []int{1, 3, 4, 7, 9, 99}) {
		t.Error("a changed result changed what follows", again, ok)
	}
}
