package tests

import (
	"math/rand"
	"slices"
	"strings"
	"testing"

	"loop.example/g01062/impl"
)

var goodSighting = impl.Sighting{Id: 7, Year: 1900, Town: "bern", Traits: []int{3, 14, 50}}

// farLimits are none.
var farLimits = append([]int{-999, -100, -61, -60, -32, -31, 17, 18, 30, 32, 100, 999}, farInts...)

// farTraits are none.
var farTraits = append([]int{-50, -2, -1, 0, 51, 52, 99, 100, 999}, farInts...)

// unseenIds are those of no example sighting.
var unseenIds = append([]int{2, 3, 5, 8, 10, 998}, farCoverIds...)

// exampleSightings are a chain of four of bern, each link of which has the evidence 2, and two of genf with the evidence -1; between the towns it is -13 or -14.
func exampleSightings() []impl.Sighting {
	return []impl.Sighting{
		{Id: 1, Year: 1900, Town: "bern", Traits: []int{1, 2, 3}},
		{Id: 4, Year: 1950, Town: "bern", Traits: []int{2, 3, 4}},
		{Id: 6, Year: 1850, Town: "genf", Traits: []int{9}},
		{Id: 7, Year: 1890, Town: "bern", Traits: []int{3, 4, 5}},
		{Id: 9, Year: 1840, Town: "genf"},
		{Id: 999, Year: 2100, Town: "bern", Traits: []int{4, 5, 6}},
	}
}

// seen is goodSighting with another Town and other Traits.
func seen(town string, traits ...int) impl.Sighting {
	return impl.Sighting{Id: goodSighting.Id, Year: goodSighting.Year, Town: town, Traits: traits}
}

// sightingsOf gives sightings the Ids 1, 2, 3 and so on.
func sightingsOf(list ...impl.Sighting) []impl.Sighting {
	for i := range list {
		list[i].Id = i + 1
	}
	return list
}

// traitsOf makes sightings of bern with the Ids 1, 2, 3 and so on and some Traits.
func traitsOf(traits ...[]int) []impl.Sighting {
	list := []impl.Sighting{}
	for _, some := range traits {
		list = append(list, seen("bern", some...))
	}
	return sightingsOf(list...)
}

// sightingsWithIds makes sightings that differ in their Ids alone.
func sightingsWithIds(ids ...int) []impl.Sighting {
	list := []impl.Sighting{}
	for _, id := range ids {
		s := seen("bern", 3, 14, 50)
		s.Id = id
		list = append(list, s)
	}
	return list
}

// window is some numbers behind each other.
func window(first, count int) []int {
	list := []int{}
	for i := range count {
		list = append(list, first+i)
	}
	return list
}

// linksIn makes a chain of sightings of bern, in which the one with the Id order[i] is the link i. Two links behind each other have the evidence 0, any others -4.
func linksIn(order ...int) []impl.Sighting {
	traits := make([][]int, len(order))
	for i, id := range order {
		traits[id-1] = window(i+1, 2)
	}
	return traitsOf(traits...)
}

// goodTraits are Traits.
func goodTraits() [][]int {
	return [][]int{nil, {}, {1}, {2}, {49}, {50}, {1, 2}, {1, 50}, {49, 50}, {3, 14, 50}, window(1, 7), window(1, 8), window(43, 8), window(44, 7), {1, 8, 15, 22, 29, 36, 43, 50}}
}

// badTraits are none.
func badTraits() [][]int {
	list := [][]int{
		{0, 0}, {50, 51}, {0, 1}, {51, 52}, window(0, 8), window(44, 8), window(0, 51), window(1, 9), window(1, 10), window(42, 9), window(1, 50), make([]int, 8), make([]int, 1000000), window(1, 1000000),
		// Equal behind each other, and with another one between.
		{1, 1}, {50, 50}, {7, 7}, {1, 1, 2}, {1, 2, 2}, {1, 7, 7, 9}, {1, 2, 1}, {1, 2, 3, 4, 5, 6, 7, 7}, {1, 1, 1, 1, 1, 1, 1, 1},
		// Descending.
		{2, 1}, {50, 1}, {50, 49}, {1, 3, 2}, {2, 1, 3}, {3, 1, 2}, {8, 7, 6, 5, 4, 3, 2, 1}, {1, 2, 3, 4, 5, 6, 8, 7},
	}
	for _, n := range farTraits {
		list = append(list, []int{n}, []int{n, 7}, []int{7, n}, []int{1, n, 50}, []int{1, 2, 3, 4, 5, 6, 7, n})
	}
	return list
}

// badSightings are not valid, each in one field.
func badSightings() []impl.Sighting {
	list := append(sightingsWithIds(farCoverIds...), impl.Sighting{})
	for _, n := range append([]int{-1900, -1, 0, 1, 999, 1839, 2101, 2102, 9999}, farInts...) {
		s := goodSighting
		s.Year = n
		list = append(list, s)
	}
	for _, town := range append(noMarks(), "") {
		list = append(list, seen(town), seen(town, 3))
	}
	for _, traits := range badTraits() {
		list = append(list, seen("bern", traits...))
	}
	return list
}

// badSightingLists are no Sightings.
func badSightingLists() [][]impl.Sighting {
	lists := [][]impl.Sighting{
		sightingsWithIds(window(1, impl.MaxSightings+1)...), sightingsWithIds(window(1, 100)...), make([]impl.Sighting, 1), make([]impl.Sighting, impl.MaxSightings), make([]impl.Sighting, 1000000),
		// The same Id twice, behind each other and with another one between, with the same and with other fields.
		sightingsWithIds(7, 7), sightingsWithIds(1, 7, 7), sightingsWithIds(7, 8, 7), {goodSighting, seen("genf", 1)}, {goodSighting, seen("bern")},
		// Ids that descend.
		sightingsWithIds(8, 7), sightingsWithIds(999, 7), sightingsWithIds(7, 9, 8), sightingsWithIds(8, 7, 9),
	}
	for _, s := range badSightings() {
		lists = append(lists, []impl.Sighting{s})
		if s.Id == goodSighting.Id {
			lists = append(lists, append(sightingsWithIds(6), s), append([]impl.Sighting{s}, sightingsWithIds(8)...))
		}
	}
	return lists
}

func sameSighting(a, b impl.Sighting) bool {
	return a.Id == b.Id && a.Year == b.Year && a.Town == b.Town && slices.Equal(a.Traits, b.Traits)
}

func sameSightings(a, b []impl.Sighting) bool { return slices.EqualFunc(a, b, sameSighting) }

// copied copies sightings and their Traits.
func copied(list []impl.Sighting) []impl.Sighting {
	list = slices.Clone(list)
	for i := range list {
		list[i].Traits = slices.Clone(list[i].Traits)
	}
	return list
}

// sumOfEvidence goes through all traits that there are.
func sumOfEvidence(s, t impl.Sighting) int {
	sum := 0
	for trait := 1; trait <= 50; trait++ {
		switch one, other := slices.Contains(s.Traits, trait), slices.Contains(t.Traits, trait); {
		case one && other:
			sum += 2
		case one || other:
			sum--
		}
	}
	if s.Town != t.Town {
		sum -= 10
	}
	return sum
}

// reachedFrom returns the sightings that are reached from one of them, link by link, in their order.
func reachedFrom(list []impl.Sighting, limit int, start impl.Sighting) []impl.Sighting {
	isReached := map[int]bool{start.Id: true}
	waiting := []impl.Sighting{start}
	for len(waiting) > 0 {
		s := waiting[0]
		waiting = waiting[1:]
		for _, t := range list {
			if !isReached[t.Id] && sumOfEvidence(s, t) >= limit {
				isReached[t.Id] = true
				waiting = append(waiting, t)
			}
		}
	}
	return slices.DeleteFunc(slices.Clone(list), func(s impl.Sighting) bool { return !isReached[s.Id] })
}

func idsOfSightings(list []impl.Sighting) []int {
	ids := []int{}
	for _, s := range list {
		ids = append(ids, s.Id)
	}
	return ids
}

// randomSightings makes at most MaxSightings sightings from two towns, mostly the same one, with few different traits.
func randomSightings(r *rand.Rand) []impl.Sighting {
	list := []impl.Sighting{}
	id, first, different := r.Intn(20), 1+r.Intn(37), 8+r.Intn(7)
	for range r.Intn(impl.MaxSightings + 1) {
		id += 1 + r.Intn(90)
		traits := window(first+r.Intn(different-5), 1+r.Intn(5))
		if r.Intn(2) == 0 {
			traits = r.Perm(different)[:r.Intn(9)]
			for i := range traits {
				traits[i] += first
			}
			slices.Sort(traits)
		}
		town := "bern"
		if r.Intn(5) == 0 {
			town = "berna"
		}
		list = append(list, impl.Sighting{Id: id, Year: 1840 + r.Intn(261), Town: town, Traits: traits})
	}
	return list
}

func TestConstantsOfSightings(t *testing.T) {
	if impl.MaxSightings != 10 {
		t.Error("limit", impl.MaxSightings)
	}
}

func TestAreSightings(t *testing.T) {
	lists := [][]impl.Sighting{
		nil, {}, {goodSighting}, exampleSightings(), sightingsWithIds(1), sightingsWithIds(999), sightingsWithIds(1, 999), sightingsWithIds(1, 2, 3), sightingsWithIds(990, 998, 999),
		sightingsWithIds(window(1, impl.MaxSightings)...), sightingsWithIds(window(1, impl.MaxSightings-1)...), sightingsWithIds(window(990, impl.MaxSightings)...), linksIn(3, 1, 2),
		// Only the Ids must ascend.
		sightingsOf(impl.Sighting{Year: 2100, Town: "zug", Traits: []int{50}}, impl.Sighting{Year: 1840, Town: "a"}), {{Id: 1, Year: 1840, Town: "a"}}, {{Id: 999, Year: 2100, Town: "zzzzzzzzzz", Traits: window(43, 8)}},
	}
	for _, town := range goodMarks() {
		lists = append(lists, []impl.Sighting{seen(town)}, []impl.Sighting{seen(town, 1, 2)})
	}
	for _, traits := range goodTraits() {
		lists = append(lists, traitsOf(traits), traitsOf(traits, traits), traitsOf(nil, traits))
	}
	for _, list := range lists {
		if !impl.AreSightings(list) {
			t.Error("sightings", list)
		}
	}
	for _, list := range badSightingLists() {
		if impl.AreSightings(list) {
			t.Errorf("no sightings: %d, first %d %d %.20q %d", len(list), list[0].Id, list[0].Year, list[0].Town, len(list[0].Traits))
		}
	}
}

func TestSightingsAtTheirLimits(t *testing.T) {
	for n := -3; n <= 2105; n++ {
		id, year := goodSighting, goodSighting
		id.Id, year.Year = n, n
		for _, x := range []struct {
			name string
			s    impl.Sighting
			want bool
		}{
			{"id", id, n >= 1 && n <= 999}, {"year", year, n >= 1840 && n <= 2100}, {"a trait", seen("bern", n), n >= 1 && n <= 50}, {"a last trait", seen("bern", 1, 20, n), n > 20 && n <= 50}, {"a first trait", seen("bern", n, 20, 50), n >= 1 && n < 20},
			{"a trait between", seen("bern", 10, n, 40), n > 10 && n < 40}, {"two traits", seen("bern", n, n+1), n >= 1 && n <= 49}, {"the same trait", seen("bern", n, n), false}, {"back by one", seen("bern", n, n-1), false},
		} {
			if got := impl.AreSightings([]impl.Sighting{x.s}); got != x.want {
				t.Error(x.name, n, got)
			}
			if _, got := impl.SightingText(x.s); got != x.want {
				t.Error("the text of", x.name, n, got)
			}
		}
	}
	for n := range 14 {
		if got := impl.AreSightings([]impl.Sighting{seen("bern", window(1, n)...)}); got != (n <= 8) {
			t.Error("so many traits", n, got)
		}
		if got := impl.AreSightings([]impl.Sighting{seen(strings.Repeat("q", n))}); got != (n >= 1 && n <= 10) {
			t.Error("so many letters", n, got)
		}
		if got := impl.AreSightings(sightingsWithIds(window(1, n)...)); got != (n <= 10) {
			t.Error("so many sightings", n, got)
		}
	}
}

func TestEvidenceOf(t *testing.T) {
	eight := window(1, 8)
	for _, x := range []struct {
		a, b []int
		want int
	}{
		{nil, nil, 0}, {nil, []int{1}, -1}, {nil, eight, -8}, {[]int{1}, []int{1}, 2}, {[]int{50}, []int{50}, 2}, {[]int{1}, []int{50}, -2}, {[]int{1}, []int{2}, -2},
		{[]int{1, 2, 3}, []int{1, 2}, 3}, {[]int{1, 2, 3}, []int{2, 3}, 3}, {[]int{1, 2, 3}, []int{1, 3}, 3}, {[]int{1, 2}, []int{2, 3}, 0}, {[]int{1, 2}, []int{3, 4}, -4}, {[]int{1, 3}, []int{2, 3}, 0}, {[]int{1, 3, 5}, []int{2, 4, 6}, -6}, {[]int{5}, []int{1, 2, 3, 4, 5}, -2},
		{eight, eight, 16}, {eight, window(1, 7), 13}, {eight, window(2, 8), 12}, {eight, window(5, 8), 0}, {eight, window(8, 8), -12}, {eight, window(9, 8), -16}, {eight, window(43, 8), -16}, {[]int{1, 8, 15, 22, 29, 36, 43, 50}, []int{8, 22, 36, 50}, 4}, {window(43, 8), window(43, 8), 16},
	} {
		for _, towns := range []struct {
			a, b string
			less int
		}{{"bern", "bern", 0}, {"bern", "genf", 10}, {"bern", "berna", 10}, {"berna", "bern", 10}, {"a", "b", 10}, {"abcdefghij", "abcdefghij", 0}, {"abcdefghij", "abcdefghiz", 10}} {
			// The Years do not count, nor a sighting in between.
			one, other := seen(towns.a, x.a...), seen(towns.b, x.b...)
			one.Year, other.Year = 1840, 2100
			list := sightingsOf(one, seen("bern", 1, 2, 3), other)
			for _, ids := range [][2]int{{1, 3}, {3, 1}} {
				if got, ok := impl.EvidenceOf(list, ids[0], ids[1]); !ok || got != x.want-towns.less {
					t.Errorf("EvidenceOf(%v, %v) = %d, %v, not %d", list, ids, got, ok, x.want-towns.less)
				}
			}
		}
	}
	for _, traits := range goodTraits() {
		if got, ok := impl.EvidenceOf(traitsOf(nil, traits), 2, 2); !ok || got != 2*len(traits) {
			t.Error("a sighting and itself", traits, got, ok)
		}
	}
}

// A joining is what is told with limits from the least to the greatest of some.
type joining struct {
	name        string
	list        []impl.Sighting
	least, most int
	covers      [][]int
	doubtful    [][]int
}

// joinings of few sightings, and of exampleSightings with all limits.
func joinings() []joining {
	example, singles := exampleSightings(), [][]int{{1}, {4}, {6}, {7}, {9}, {999}}
	chain, all := [][]int{{1, 4, 7, 999}, {6}, {9}}, [][]int{{1, 4, 6, 7, 9, 999}}
	return []joining{
		{"none", nil, -30, 16, nil, nil}, {"none", []impl.Sighting{}, -30, 16, nil, nil}, {"one", sightingsWithIds(7), -30, 16, [][]int{{7}}, nil}, {"one without traits", traitsOf(nil), -30, 16, [][]int{{1}}, nil}, {"one with all", traitsOf(window(1, 8)), -30, 16, [][]int{{1}}, nil},
		{"two", traitsOf([]int{1, 2}, []int{1, 2, 3}), 4, 16, [][]int{{1}, {2}}, nil}, {"two", traitsOf([]int{1, 2}, []int{1, 2, 3}), -30, 3, [][]int{{1, 2}}, nil},
		{"two that are the same", traitsOf(window(1, 8), window(1, 8)), -30, 16, [][]int{{1, 2}}, nil}, {"two that have nothing in common", sightingsOf(seen("bern", window(1, 8)...), seen("genf", window(9, 8)...)), -25, 16, [][]int{{1}, {2}}, nil},
		{"two that have nothing in common", sightingsOf(seen("bern", window(1, 8)...), seen("genf", window(9, 8)...)), -30, -26, [][]int{{1, 2}}, nil},
		// Without Traits, of one Town and of two.
		{"no traits", traitsOf(nil, nil, []int{}), 1, 16, [][]int{{1}, {2}, {3}}, nil}, {"no traits", traitsOf(nil, nil, []int{}), -30, 0, [][]int{{1, 2, 3}}, nil}, {"no traits, two towns", sightingsOf(seen("bern"), seen("genf")), -9, 16, [][]int{{1}, {2}}, nil}, {"no traits, two towns", sightingsOf(seen("bern"), seen("genf")), -30, -10, [][]int{{1, 2}}, nil},
		{"no traits, towns in turn", sightingsOf(seen("bern"), seen("genf"), seen("bern"), seen("genf")), -9, 0, [][]int{{1, 3}, {2, 4}}, nil}, {"no traits, one has one", traitsOf(nil, []int{5}, nil), 0, 0, [][]int{{1, 3}, {2}}, nil},
		{"example", example, 3, 16, singles, nil}, {"example", example, 0, 2, chain, [][]int{{1, 7}, {1, 999}, {4, 999}}}, {"example", example, -1, -1, [][]int{{1, 4, 7, 999}, {6, 9}}, [][]int{{1, 7}, {1, 999}, {4, 999}}},
		{"example", example, -5, -2, [][]int{{1, 4, 7, 999}, {6, 9}}, [][]int{{1, 999}}}, {"example", example, -12, -6, [][]int{{1, 4, 7, 999}, {6, 9}}, nil}, {"example", example, -13, -13, all, [][]int{{1, 6}, {4, 6}, {6, 7}, {6, 999}}}, {"example", example, -30, -14, all, nil},
		// Two chains with Ids in turn, whose pairs come in turn too; and links that do not ascend.
		{"two chains", sightingsOf(seen("bern", 1, 2), seen("genf", 1, 2), seen("bern", 2, 3), seen("genf", 2, 3), seen("bern", 3, 4), seen("genf", 3, 4)), -3, 0, [][]int{{1, 3, 5}, {2, 4, 6}}, [][]int{{1, 5}, {2, 6}}},
		{"two chains", sightingsOf(seen("bern", 1, 2), seen("genf", 1, 2), seen("genf", 2, 3), seen("bern", 2, 3), seen("bern", 3, 4), seen("genf", 3, 4), seen("genf", 4, 5), seen("bern", 4, 5)), -3, 0, [][]int{{1, 4, 5, 8}, {2, 3, 6, 7}}, [][]int{{1, 5}, {1, 8}, {2, 6}, {2, 7}, {3, 7}, {4, 8}}},
		{"by the last one", linksIn(1, 3, 2), -3, 0, [][]int{{1, 2, 3}}, [][]int{{1, 2}}}, {"by the first one", linksIn(3, 1, 2), -3, 0, [][]int{{1, 2, 3}}, [][]int{{2, 3}}}, {"links", linksIn(2, 4, 1, 3), -3, 0, [][]int{{1, 2, 3, 4}}, [][]int{{1, 2}, {2, 3}, {3, 4}}},
		{"the last link joins all", linksIn(1, 5, 2, 6, 3, 7, 4), -3, 0, [][]int{{1, 2, 3, 4, 5, 6, 7}}, [][]int{{1, 2}, {1, 3}, {1, 4}, {1, 6}, {1, 7}, {2, 3}, {2, 4}, {2, 7}, {3, 4}, {3, 5}, {4, 5}, {4, 6}, {5, 6}, {5, 7}, {6, 7}}}, {"a broken chain", slices.Delete(linksIn(1, 2, 3, 4, 5), 2, 3), 0, 0, [][]int{{1, 2}, {4, 5}}, nil},
	}
}

func TestCoversAndDoubts(t *testing.T) {
	for _, x := range joinings() {
		lone := []int{}
		for _, ids := range x.covers {
			if len(ids) == 1 {
				lone = append(lone, ids[0])
			}
		}
		for limit := x.least; limit <= x.most; limit++ {
			if got, ok := impl.CoversSeen(x.list, limit); !ok || !sameKinds(got, x.covers) {
				t.Errorf("%s: CoversSeen(%d) = %v, %v, not %v", x.name, limit, got, ok, x.covers)
			}
			if got, ok := impl.LoneSightings(x.list, limit); !ok || !slices.Equal(got, lone) {
				t.Errorf("%s: LoneSightings(%d) = %v, %v, not %v", x.name, limit, got, ok, lone)
			}
			if got, ok := impl.DoubtfulPairs(x.list, limit); !ok || !sameKinds(got, x.doubtful) {
				t.Errorf("%s: DoubtfulPairs(%d) = %v, %v, not %v", x.name, limit, got, ok, x.doubtful)
			}
		}
	}
}

func TestChainsInAnyOrder(t *testing.T) {
	r := rand.New(rand.NewSource(1300))
	for range 300 {
		order := r.Perm(2 + r.Intn(impl.MaxSightings-1))
		for i := range order {
			order[i]++
		}
		list := linksIn(order...)
		all, ends := window(1, len(list)), [2]int{order[0], order[len(order)-1]}
		for _, limit := range []int{0, -1, -3, -4, -5} {
			covers, ok := impl.CoversSeen(list, limit)
			lone, loneOk := impl.LoneSightings(list, limit)
			pairs, pairsOk := impl.DoubtfulPairs(list, limit)
			doubts := 0
			if limit > -4 {
				doubts = (len(list) - 1) * (len(list) - 2) / 2
			}
			if !ok || !loneOk || !pairsOk || !sameKinds(covers, [][]int{all}) || len(lone) != 0 || len(pairs) != doubts {
				t.Fatal("a chain", order, limit, covers, lone, pairs)
			}
		}
		if lone, ok := impl.LoneSightings(list, 1); !ok || !slices.Equal(lone, all) {
			t.Fatal("links that hold too little", order, lone, ok)
		}
		if got, ok := impl.GreatestLimit(list, ends[0], ends[1]); !ok || got != 0 {
			t.Fatal("the ends of a chain", order, got, ok)
		}
	}
}

func TestStrongestPair(t *testing.T) {
	for _, x := range []struct {
		list       []impl.Sighting
		a, b, most int
	}{
		{exampleSightings(), 1, 4, 2}, {exampleSightings()[1:], 4, 7, 2}, {exampleSightings()[2:], 7, 999, 2}, {exampleSightings()[2:5], 6, 9, -1}, {exampleSightings()[:2], 1, 4, 2}, {exampleSightings()[4:], 9, 999, -13},
		// The least and the greatest evidence that there is.
		{sightingsOf(seen("bern", window(1, 8)...), seen("genf", window(9, 8)...)), 1, 2, -26}, {sightingsOf(seen("a", window(1, 8)...), seen("b", window(9, 8)...), seen("c", window(17, 8)...)), 1, 2, -26}, {traitsOf(window(1, 8), window(1, 8)), 1, 2, 16}, {traitsOf(nil, nil), 1, 2, 0},
		// The same evidence: of all, and of pairs with the same first one, the same second one, and none in common.
		{sightingsWithIds(3, 5, 8), 3, 5, 6}, {traitsOf([]int{1}, []int{2, 3}, []int{1}, []int{1}), 1, 3, 2}, {traitsOf([]int{9}, []int{1}, []int{1}, []int{1}), 2, 3, 2}, {traitsOf([]int{1, 2}, []int{2, 3}, []int{3, 4}), 1, 2, 0}, {traitsOf([]int{1, 2}, []int{3, 4}, []int{3, 4}, []int{1, 2}), 1, 4, 4}, {traitsOf([]int{1, 2}, []int{1, 2}, []int{3, 4}, []int{3, 4}), 1, 2, 4},
		{traitsOf([]int{5}, []int{1, 2}, []int{3, 4}, []int{3, 4}, []int{1, 2}), 2, 5, 4}, {sightingsWithIds(window(1, impl.MaxSightings)...), 1, 2, 6},
		// The last one is the greatest, or the one before it.
		{traitsOf([]int{1}, []int{1, 2}, []int{1, 2, 3}, []int{1, 2, 3}), 3, 4, 6}, {traitsOf([]int{1, 2, 3}, []int{1}, []int{1, 2}, []int{1, 2, 3}), 1, 4, 6}, {sightingsOf(seen("a", 1), seen("b", 1), seen("c", 1), seen("b", 2)), 2, 4, -2},
	} {
		if a, b, most, ok := impl.StrongestPair(x.list); !ok || a != x.a || b != x.b || most != x.most {
			t.Errorf("StrongestPair(%v) = %d, %d, %d, %v, not %d, %d, %d", x.list, a, b, most, ok, x.a, x.b, x.most)
		}
	}
	for _, list := range append(badSightingLists(), nil, []impl.Sighting{}, sightingsWithIds(7), sightingsWithIds(1), sightingsWithIds(999), traitsOf(nil)) {
		if a, b, most, ok := impl.StrongestPair(list); ok || a != 0 || b != 0 || most != 0 {
			t.Error("no pair", len(list), a, b, most, ok)
		}
	}
}

func TestTraitsAndYearsSeen(t *testing.T) {
	for _, x := range []struct {
		limit, id   int
		traits      []int
		first, last int
	}{
		{16, 1, []int{1, 2, 3}, 1900, 1900}, {3, 1, []int{1, 2, 3}, 1900, 1900}, {3, 4, []int{2, 3, 4}, 1950, 1950}, {3, 6, []int{9}, 1850, 1850}, {3, 9, nil, 1840, 1840}, {3, 999, []int{4, 5, 6}, 2100, 2100},
		{2, 1, window(1, 6), 1890, 2100}, {2, 4, window(1, 6), 1890, 2100}, {2, 7, window(1, 6), 1890, 2100}, {2, 999, window(1, 6), 1890, 2100}, {2, 6, []int{9}, 1850, 1850}, {0, 9, nil, 1840, 1840},
		{-1, 6, []int{9}, 1840, 1850}, {-1, 9, []int{9}, 1840, 1850}, {-12, 9, []int{9}, 1840, 1850}, {-12, 1, window(1, 6), 1890, 2100}, {-13, 1, []int{1, 2, 3, 4, 5, 6, 9}, 1840, 2100}, {-13, 9, []int{1, 2, 3, 4, 5, 6, 9}, 1840, 2100}, {-30, 999, []int{1, 2, 3, 4, 5, 6, 9}, 1840, 2100},
	} {
		if got, ok := impl.TraitsSeen(exampleSightings(), x.limit, x.id); !ok || !slices.Equal(got, x.traits) {
			t.Errorf("TraitsSeen(%d, %d) = %v, %v, not %v", x.limit, x.id, got, ok, x.traits)
		}
		if first, last, ok := impl.YearsSeen(exampleSightings(), x.limit, x.id); !ok || first != x.first || last != x.last {
			t.Errorf("YearsSeen(%d, %d) = %d, %d, %v, not %d, %d", x.limit, x.id, first, last, ok, x.first, x.last)
		}
	}
	// No Traits at all, and all that there are.
	if got, ok := impl.TraitsSeen(traitsOf(nil, nil), 0, 2); !ok || len(got) != 0 {
		t.Error("no traits", got, ok)
	}
	many := traitsOf(window(43, 8), window(36, 8), window(29, 8), window(22, 8), window(15, 8), window(8, 8), window(1, 8))
	if got, ok := impl.TraitsSeen(many, -12, 4); !ok || !slices.Equal(got, window(1, 50)) {
		t.Error("all traits", got, ok)
	}
	if got, ok := impl.TraitsSeen(many, -11, 4); !ok || !slices.Equal(got, window(22, 8)) {
		t.Error("one too many", got, ok)
	}
}

func TestGreatestLimit(t *testing.T) {
	for _, x := range []struct {
		list       []impl.Sighting
		a, b, want int
	}{
		{exampleSightings(), 1, 4, 2}, {exampleSightings(), 1, 7, 2}, {exampleSightings(), 1, 999, 2}, {exampleSightings(), 4, 999, 2}, {exampleSightings(), 7, 999, 2}, {exampleSightings(), 6, 9, -1}, {exampleSightings(), 1, 6, -13}, {exampleSightings(), 1, 9, -13}, {exampleSightings(), 6, 999, -13},
		// The greatest and the least one, with two sightings and with others beside them.
		{traitsOf(window(1, 8), window(1, 8)), 1, 2, 16}, {traitsOf(window(1, 8), nil, window(1, 8)), 1, 3, 16}, {sightingsOf(seen("bern", window(1, 8)...), seen("genf", window(9, 8)...)), 1, 2, -26}, {sightingsOf(seen("a", window(1, 8)...), seen("b", window(9, 8)...), seen("c", window(17, 8)...)), 1, 3, -26},
		{traitsOf(nil, nil), 1, 2, 0}, {sightingsOf(seen("bern"), seen("genf")), 1, 2, -10}, {sightingsOf(seen("bern"), seen("genf"), seen("bern")), 1, 3, 0}, {sightingsOf(seen("bern"), seen("genf"), seen("bern")), 2, 3, -10},
		// The evidence of the two themselves is more than that of any chain, and less.
		{traitsOf([]int{1, 2}, []int{1, 2}, []int{2, 3}), 1, 2, 4}, {traitsOf([]int{1, 2}, []int{1, 2}, []int{2, 3}), 1, 3, 0}, {traitsOf([]int{1, 2, 3, 4}, []int{1, 2, 3, 4, 5}, []int{4, 5, 6}), 1, 3, 0}, {traitsOf([]int{1, 2, 3, 4}, []int{1, 2, 3, 4, 5}, []int{4, 5, 6}), 1, 2, 7}, {traitsOf([]int{4, 5, 6}, []int{1, 2, 3, 4}, []int{1, 2, 3, 4, 5}), 1, 2, 0},
		// Two chains of which one holds more, and a detour that holds more than a short chain.
		{traitsOf([]int{1, 2}, []int{5, 6}, []int{2, 5}, []int{1, 2, 5, 6}), 1, 2, 2}, {traitsOf([]int{1, 2, 3, 4}, window(4, 4), []int{2, 3, 4, 5}, []int{3, 4, 5, 6}), 1, 2, 4},
		{linksIn(1, 2, 3, 4, 5, 6, 7, 8, 9, 10), 1, 10, 0}, {linksIn(10, 9, 8, 7, 6, 5, 4, 3, 2, 1), 1, 10, 0}, {linksIn(5, 10, 1, 6, 2, 7, 9, 3, 8, 4), 4, 5, 0}, {slices.Delete(linksIn(1, 2, 3, 4, 5), 2, 3), 1, 5, -4},
	} {
		for _, ids := range [][2]int{{x.a, x.b}, {x.b, x.a}} {
			if got, ok := impl.GreatestLimit(x.list, ids[0], ids[1]); !ok || got != x.want {
				t.Errorf("GreatestLimit(%v, %v) = %d, %v, not %d", x.list, ids, got, ok, x.want)
			}
		}
	}
}

// areInOneCover reports whether two Ids are in the same one of covers.
func areInOneCover(covers [][]int, a, b int) bool {
	return slices.ContainsFunc(covers, func(ids []int) bool { return slices.Contains(ids, a) && slices.Contains(ids, b) })
}

// coversWith are the covers of sightings by the limits with which they are seen.
func coversWith(t *testing.T, list []impl.Sighting) map[int][][]int {
	t.Helper()
	covers := map[int][][]int{}
	for limit := -30; limit <= 16; limit++ {
		seen, ok := impl.CoversSeen(list, limit)
		if !ok {
			t.Fatal("no covers", list, limit)
		}
		covers[limit] = seen
	}
	return covers
}

// checkGreatest checks promise 13 for two sightings. It reports whether only a chain joins them with their greatest limit.
func checkGreatest(t *testing.T, list []impl.Sighting, covers map[int][][]int, a, b impl.Sighting) (isByChain bool) {
	t.Helper()
	greatest, ok := impl.GreatestLimit(list, a.Id, b.Id)
	if !ok || greatest < -26 || greatest > 16 || greatest < sumOfEvidence(a, b) {
		t.Fatalf("GreatestLimit(%v, %d, %d) = %d, %v", list, a.Id, b.Id, greatest, ok)
	}
	for limit := -30; limit <= 16; limit++ {
		if areInOneCover(covers[limit], a.Id, b.Id) != (limit <= greatest) {
			t.Fatal("in one cover", list, a.Id, b.Id, "limit", limit, "greatest", greatest, covers[limit])
		}
	}
	if back, ok := impl.GreatestLimit(list, b.Id, a.Id); !ok || back != greatest {
		t.Fatal("the other way round", list, a.Id, b.Id, greatest, back, ok)
	}
	return greatest > sumOfEvidence(a, b)
}

func TestPromise13GreatestLimitIsTheGreatest(t *testing.T) {
	r := rand.New(rand.NewSource(1301))
	lists := [][]impl.Sighting{exampleSightings(), traitsOf(window(1, 8), window(1, 8)), sightingsOf(seen("bern", window(1, 8)...), seen("genf", window(9, 8)...)), sightingsOf(seen("bern"), seen("genf"), seen("bern")), linksIn(5, 10, 1, 6, 2, 7, 9, 3, 8, 4), sightingsWithIds(window(990, 10)...)}
	for range 300 {
		lists = append(lists, randomSightings(r))
	}
	byChain, bySelf := 0, 0
	for _, list := range lists {
		covers := coversWith(t, list)
		for i, a := range list {
			for _, b := range list[i+1:] {
				if checkGreatest(t, list, covers, a, b) {
					byChain++
				} else {
					bySelf++
				}
			}
		}
	}
	if byChain < 1000 || bySelf < 1000 {
		t.Error("few limits of a kind", byChain, bySelf)
	}
}

// checkPairs compares what is told of each two sightings, without a limit, with a reckoning.
func checkPairs(t *testing.T, list []impl.Sighting) {
	t.Helper()
	strongest := [][3]int{}
	for i, s := range list {
		for j, u := range list {
			sum := sumOfEvidence(s, u)
			if got, ok := impl.EvidenceOf(list, s.Id, u.Id); !ok || got != sum {
				t.Fatal("EvidenceOf", list, s.Id, u.Id, got, ok, sum)
			}
			if i < j {
				strongest = append(strongest, [3]int{-sum, s.Id, u.Id})
			}
		}
	}
	slices.SortFunc(strongest, func(x, y [3]int) int { return slices.Compare(x[:], y[:]) })
	strongest = append(strongest, [3]int{})
	want := strongest[0]
	if a, b, most, ok := impl.StrongestPair(list); ok != (len(list) > 1) || a != want[1] || b != want[2] || most != -want[0] {
		t.Fatal("StrongestPair", list, a, b, most, ok, want)
	}
}

// checkCensus compares what is told with a limit with what is reached link by link. It reports how many pairs are doubtful.
func checkCensus(t *testing.T, list []impl.Sighting, limit int) int {
	t.Helper()
	covers, lone, doubtful := [][]int{}, []int{}, [][]int{}
	for _, s := range list {
		cover := reachedFrom(list, limit, s)
		ids, traits, years := idsOfSightings(cover), []int{}, []int{}
		for trait := 1; trait <= 50; trait++ {
			if slices.ContainsFunc(cover, func(u impl.Sighting) bool { return slices.Contains(u.Traits, trait) }) {
				traits = append(traits, trait)
			}
		}
		for _, u := range cover {
			years = append(years, u.Year)
			if s.Id < u.Id && sumOfEvidence(s, u) < limit {
				doubtful = append(doubtful, []int{s.Id, u.Id})
			}
		}
		if ids[0] == s.Id {
			covers = append(covers, ids)
		}
		if len(cover) == 1 {
			lone = append(lone, s.Id)
		}
		if got, ok := impl.TraitsSeen(list, limit, s.Id); !ok || !slices.Equal(got, traits) {
			t.Fatal("TraitsSeen", list, limit, s.Id, got, ok, traits)
		}
		if first, last, ok := impl.YearsSeen(list, limit, s.Id); !ok || first != slices.Min(years) || last != slices.Max(years) {
			t.Fatal("YearsSeen", list, limit, s.Id, first, last, ok, years)
		}
	}
	if got, ok := impl.CoversSeen(list, limit); !ok || !sameKinds(got, covers) {
		t.Fatal("CoversSeen", list, limit, got, ok, covers)
	}
	if got, ok := impl.LoneSightings(list, limit); !ok || !slices.Equal(got, lone) {
		t.Fatal("LoneSightings", list, limit, got, ok, lone)
	}
	if got, ok := impl.DoubtfulPairs(list, limit); !ok || !sameKinds(got, doubtful) {
		t.Fatal("DoubtfulPairs", list, limit, got, ok, doubtful)
	}
	return len(doubtful)
}

func TestRandomSightings(t *testing.T) {
	r := rand.New(rand.NewSource(1302))
	doubts := 0
	for range 200 {
		list := randomSightings(r)
		if !impl.AreSightings(list) {
			t.Fatal("no sightings", list)
		}
		checkPairs(t, list)
		for limit := -30; limit <= 16; limit++ {
			doubts += checkCensus(t, list, limit)
		}
	}
	if doubts < 1000 {
		t.Error("few doubtful pairs", doubts)
	}
}

func TestAddSighting(t *testing.T) {
	for _, x := range []struct {
		list []impl.Sighting
		id   int
	}{
		{nil, 1}, {[]impl.Sighting{}, 1}, {sightingsWithIds(1), 2}, {sightingsWithIds(7), 8}, {sightingsWithIds(997), 998}, {sightingsWithIds(998), 999}, {sightingsWithIds(1, 500), 501}, {sightingsWithIds(3, 5, 998), 999}, {exampleSightings()[:5], 10}, {exampleSightings()[1:3], 7},
		{sightingsWithIds(window(1, impl.MaxSightings-1)...), impl.MaxSightings}, {sightingsWithIds(window(990, impl.MaxSightings-1)...), 999}, {traitsOf(nil, []int{}), 3},
	} {
		for _, traits := range goodTraits() {
			for _, year := range []int{1840, 1841, 1999, 2100} {
				for _, town := range goodMarks() {
					want := append(copied(x.list), impl.Sighting{Id: x.id, Year: year, Town: town, Traits: traits})
					if got, id, ok := impl.AddSighting(x.list, year, town, traits); !ok || id != x.id || !sameSightings(got, want) {
						t.Fatalf("AddSighting(%v, %d, %q, %v) = %v, %d, %v, not %v", x.list, year, town, traits, got, id, ok, want)
					}
				}
			}
		}
	}
	list := []impl.Sighting{}
	for i := range impl.MaxSightings {
		longer, id, ok := impl.AddSighting(list, 1900+i, "bern", window(i+1, 2))
		if !ok || id != i+1 || len(longer) != i+1 || !impl.AreSightings(longer) {
			t.Fatal("one behind the other", i, longer, id, ok)
		}
		list = longer
	}
	checkNotAdded(t, list, 1900, "bern", []int{1})
}

// checkNotAdded checks that no sighting can be added.
func checkNotAdded(t *testing.T, list []impl.Sighting, year int, town string, traits []int) {
	t.Helper()
	if got, id, ok := impl.AddSighting(list, year, town, traits); ok || id != 0 || len(got) != 0 {
		t.Errorf("AddSighting to %d, %d, %.20q, %d traits: %d, %d, %v", len(list), year, town, len(traits), len(got), id, ok)
	}
}

func TestSightingsThatCannotBeAdded(t *testing.T) {
	for _, list := range [][]impl.Sighting{
		sightingsWithIds(999), sightingsWithIds(1, 999), exampleSightings(), sightingsWithIds(window(990, 10)...), sightingsWithIds(window(1, impl.MaxSightings)...), sightingsWithIds(window(100, impl.MaxSightings)...),
	} {
		for _, traits := range goodTraits() {
			checkNotAdded(t, list, 1900, "bern", traits)
		}
	}
	for _, list := range [][]impl.Sighting{nil, {}, sightingsWithIds(1, 2), exampleSightings()[:5]} {
		for _, year := range append([]int{-1900, -1, 0, 1, 1839, 2101, 9999}, farInts...) {
			checkNotAdded(t, list, year, "bern", []int{1})
			checkNotAdded(t, list, year, "bern", nil)
		}
		for _, town := range append(noMarks(), "") {
			checkNotAdded(t, list, 1900, town, []int{1})
		}
		for _, traits := range badTraits() {
			checkNotAdded(t, list, 1900, "bern", traits)
		}
	}
}

func TestSightingText(t *testing.T) {
	for _, x := range []struct {
		s    impl.Sighting
		want string
	}{
		{goodSighting, "7 bern 1900 #3 #14 #50"}, {exampleSightings()[0], "1 bern 1900 #1 #2 #3"}, {exampleSightings()[2], "6 genf 1850 #9"}, {exampleSightings()[4], "9 genf 1840"}, {exampleSightings()[5], "999 bern 2100 #4 #5 #6"},
		{impl.Sighting{Id: 1, Year: 1840, Town: "a", Traits: []int{}}, "1 a 1840"}, {impl.Sighting{Id: 12, Year: 2100, Town: "abcdefghij", Traits: window(43, 8)}, "12 abcdefghij 2100 #43 #44 #45 #46 #47 #48 #49 #50"}, {impl.Sighting{Id: 998, Year: 1999, Town: "z", Traits: []int{1, 50}}, "998 z 1999 #1 #50"},
	} {
		if got, ok := impl.SightingText(x.s); !ok || got != x.want {
			t.Error("text", x.s, got, ok)
		}
	}
	for _, s := range badSightings() {
		if got, ok := impl.SightingText(s); ok || got != "" {
			t.Errorf("text of none: %d %d %.20q %d traits = %.40q, %v", s.Id, s.Year, s.Town, len(s.Traits), got, ok)
		}
	}
}

// checkNoPair checks that nothing is told of two sightings.
func checkNoPair(t *testing.T, list []impl.Sighting, a, b int) {
	t.Helper()
	if got, ok := impl.EvidenceOf(list, a, b); ok || got != 0 {
		t.Error("EvidenceOf", len(list), a, b, got, ok)
	}
	if got, ok := impl.GreatestLimit(list, a, b); ok || got != 0 {
		t.Error("GreatestLimit", len(list), a, b, got, ok)
	}
}

// checkNoCover checks that nothing is told of the cover with a sighting.
func checkNoCover(t *testing.T, list []impl.Sighting, limit, id int) {
	t.Helper()
	if got, ok := impl.TraitsSeen(list, limit, id); ok || len(got) != 0 {
		t.Error("TraitsSeen", len(list), limit, id, got, ok)
	}
	if first, last, ok := impl.YearsSeen(list, limit, id); ok || first != 0 || last != 0 {
		t.Error("YearsSeen", len(list), limit, id, first, last, ok)
	}
}

// checkNoCensus checks that nothing is told with a limit.
func checkNoCensus(t *testing.T, list []impl.Sighting, limit int) {
	t.Helper()
	if got, ok := impl.CoversSeen(list, limit); ok || len(got) != 0 {
		t.Error("CoversSeen", len(list), limit, got, ok)
	}
	if got, ok := impl.LoneSightings(list, limit); ok || len(got) != 0 {
		t.Error("LoneSightings", len(list), limit, got, ok)
	}
	if got, ok := impl.DoubtfulPairs(list, limit); ok || len(got) != 0 {
		t.Error("DoubtfulPairs", len(list), limit, got, ok)
	}
	for _, s := range list[:min(len(list), 3)] {
		checkNoCover(t, list, limit, s.Id)
	}
}

func TestLimitsThatAreNone(t *testing.T) {
	for _, list := range [][]impl.Sighting{nil, {}, sightingsWithIds(7), traitsOf(window(1, 8), window(1, 8)), exampleSightings(), linksIn(1, 3, 2)} {
		for _, limit := range farLimits {
			checkNoCensus(t, list, limit)
		}
		for limit := -300; limit <= 300; limit++ {
			_, ok := impl.CoversSeen(list, limit)
			_, loneOk := impl.LoneSightings(list, limit)
			_, pairsOk := impl.DoubtfulPairs(list, limit)
			if want := limit >= -30 && limit <= 16; ok != want || loneOk != want || pairsOk != want {
				t.Error("a limit", limit, ok, loneOk, pairsOk)
			}
			for _, s := range list {
				_, traitsOk := impl.TraitsSeen(list, limit, s.Id)
				_, _, yearsOk := impl.YearsSeen(list, limit, s.Id)
				if want := limit >= -30 && limit <= 16; traitsOk != want || yearsOk != want {
					t.Error("a limit for a cover", limit, s.Id, traitsOk, yearsOk)
				}
			}
		}
	}
}

func TestIdsOfNoSightings(t *testing.T) {
	for _, id := range unseenIds {
		for _, s := range exampleSightings() {
			checkNoPair(t, exampleSightings(), id, s.Id)
			checkNoPair(t, exampleSightings(), s.Id, id)
		}
		checkNoPair(t, exampleSightings(), id, id)
		for _, none := range [][]impl.Sighting{nil, {}} {
			checkNoPair(t, none, id, id)
			checkNoPair(t, none, 1, id)
			checkNoPair(t, none, id, 1)
		}
		for _, limit := range []int{-30, -1, 0, 2, 16} {
			checkNoCover(t, exampleSightings(), limit, id)
			checkNoCover(t, nil, limit, id)
		}
	}
	checkNoCover(t, []impl.Sighting{}, 0, 1)
	checkNoPair(t, []impl.Sighting{}, 1, 1)
	// The same one twice has evidence, but no greatest limit.
	for _, list := range [][]impl.Sighting{exampleSightings(), sightingsWithIds(7), traitsOf(window(1, 8), nil)} {
		for _, s := range list {
			if got, ok := impl.GreatestLimit(list, s.Id, s.Id); ok || got != 0 {
				t.Error("the same one twice", s, got, ok)
			}
		}
	}
}

func TestListsThatAreNoSightings(t *testing.T) {
	for _, list := range badSightingLists() {
		for _, limit := range []int{-30, 0, 16} {
			checkNoCensus(t, list, limit)
			for _, id := range []int{6, 7, 8} {
				checkNoCover(t, list, limit, id)
			}
		}
		for _, id := range []int{6, 7, 8} {
			checkNoPair(t, list, 7, id)
			checkNoPair(t, list, id, 7)
		}
		// The Ids that the list has, and the last one.
		for _, s := range list[:min(len(list), 3)] {
			checkNoPair(t, list, s.Id, s.Id)
			checkNoPair(t, list, s.Id, list[len(list)-1].Id)
			checkNoPair(t, list, list[len(list)-1].Id, s.Id)
		}
		checkNotAdded(t, list, 1900, "bern", []int{1, 2})
		checkNotAdded(t, list, 1900, "bern", nil)
	}
}

// withRoom are exampleSightings with room behind the list and behind the Traits of each one, in which there are others that would count.
func withRoom() (room []impl.Sighting, traits [][]int) {
	for _, s := range exampleSightings() {
		full := append(slices.Clone(s.Traits), 50, 0, 7, 7)
		traits = append(traits, full)
		s.Traits = full[:len(s.Traits)]
		room = append(room, s)
	}
	return append(room, impl.Sighting{Id: 1000, Year: 1800, Town: "bern", Traits: []int{9, 1}}, impl.Sighting{Id: 3}), traits
}

// callAll calls all functions of the chapter.
func callAll(list []impl.Sighting, limit, a, b int, traits []int) {
	impl.AreSightings(list)
	impl.EvidenceOf(list, a, b)
	impl.CoversSeen(list, limit)
	impl.LoneSightings(list, limit)
	impl.StrongestPair(list)
	impl.DoubtfulPairs(list, limit)
	impl.TraitsSeen(list, limit, a)
	impl.YearsSeen(list, limit, b)
	impl.GreatestLimit(list, a, b)
	impl.AddSighting(list, 1900, "bern", traits)
	if len(list) > 0 {
		impl.SightingText(list[0])
	}
}

func TestCensusesChangeNoArgument(t *testing.T) {
	room, traits := withRoom()
	kept, keptTraits := copied(room), [][]int{}
	for _, some := range traits {
		keptTraits = append(keptTraits, slices.Clone(some))
	}
	added := []int{3, 9, 1, 1}
	for _, l := range [][]impl.Sighting{room[:6], room, room[:1], room[1:3], room[:0], room[:5]} {
		for _, limit := range []int{-31, -30, -13, -1, 0, 2, 3, 16, 17} {
			for _, s := range room {
				callAll(l, limit, s.Id, 1, added)
				callAll(l, limit, s.Id, 999, added[:2])
				callAll(l, limit, 4, s.Id, added[:0])
			}
		}
	}
	if !sameSightings(room, kept) || !sameKinds(traits, keptTraits) || !slices.Equal(added, []int{3, 9, 1, 1}) {
		t.Error("an argument was changed", room, traits, added)
	}
	// What is behind the list and behind the Traits is not read.
	list := room[:6]
	covers, _ := impl.CoversSeen(list, 2)
	all, _ := impl.TraitsSeen(list, -30, 1)
	evidence, _ := impl.EvidenceOf(list, 1, 4)
	first, last, _ := impl.YearsSeen(list, -30, 1)
	longer, id, ok := impl.AddSighting(list[:5], 1900, "bern", added[:2])
	if !sameKinds(covers, [][]int{{1, 4, 7, 999}, {6}, {9}}) || !slices.Equal(all, []int{1, 2, 3, 4, 5, 6, 9}) || evidence != 2 || first != 1840 || last != 2100 || !ok || id != 10 || len(longer) != 6 || !slices.Equal(longer[5].Traits, []int{3, 9}) {
		t.Error("something from behind a list", covers, all, evidence, first, last, longer, id, ok)
	}
}

func TestAddedSightingsAreNew(t *testing.T) {
	list, traits := exampleSightings()[:5], []int{3, 9, 14}
	longer, id, ok := impl.AddSighting(list, 1900, "bern", traits)
	want := append(exampleSightings()[:5], impl.Sighting{Id: 10, Year: 1900, Town: "bern", Traits: []int{3, 9, 14}})
	if !ok || id != 10 || !sameSightings(longer, want) {
		t.Fatal("added", longer, id, ok)
	}
	// The caller changes the Traits that it gave, and those of the list.
	for _, s := range append(list, impl.Sighting{Traits: traits}) {
		for i := range s.Traits {
			s.Traits[i] = 77
		}
	}
	for i := range list {
		list[i] = impl.Sighting{Id: 77}
	}
	if !sameSightings(longer, want) {
		t.Error("a changed argument changed the result", longer)
	}
	// The caller changes and lengthens what it got.
	list, traits = exampleSightings()[:5], []int{3, 9, 14}
	longer, _, _ = impl.AddSighting(list, 1900, "bern", traits)
	for i := range longer {
		_ = append(longer[i].Traits, 77)
		for j := range longer[i].Traits {
			longer[i].Traits[j] = 88 + i
		}
		for _, s := range longer[i+1:] {
			if slices.Max(append([]int{0}, s.Traits...)) > 50 {
				t.Error("Traits of one sighting are those of another one", i, longer)
			}
		}
	}
	_ = append(longer, impl.Sighting{Id: 78})
	if !sameSightings(list, exampleSightings()[:5]) || !slices.Equal(traits, []int{3, 9, 14}) {
		t.Error("a changed result changed an argument", list, traits)
	}
}

// checkRowsApart checks that no row reaches into another one, and clears them.
func checkRowsApart(t *testing.T, rows [][]int) {
	t.Helper()
	before := [][]int{}
	for _, row := range rows {
		before = append(before, slices.Clone(row))
	}
	for i := range rows {
		_ = append(rows[i], 77, 78, 79)
	}
	if !sameKinds(rows, before) {
		t.Error("a longer row changed another one", rows, before)
	}
	for i := range rows {
		clear(rows[i])
		if !sameKinds(rows[i+1:], before[i+1:]) {
			t.Error("a row that was cleared changed another one", rows, before)
		}
	}
}

func TestResultsOfCensusesAreNew(t *testing.T) {
	list := exampleSightings()
	for range 2 {
		covers, _ := impl.CoversSeen(list, 2)
		pairs, _ := impl.DoubtfulPairs(list, 2)
		lone, _ := impl.LoneSightings(list, 3)
		traits, _ := impl.TraitsSeen(list, 3, 1)
		more, _ := impl.TraitsSeen(list, 2, 1)
		if !sameKinds(covers, [][]int{{1, 4, 7, 999}, {6}, {9}}) || !sameKinds(pairs, [][]int{{1, 7}, {1, 999}, {4, 999}}) || !slices.Equal(lone, []int{1, 4, 6, 7, 9, 999}) || !slices.Equal(traits, []int{1, 2, 3}) || !slices.Equal(more, window(1, 6)) {
			t.Error("a changed result changed what follows", covers, pairs, lone, traits, more)
		}
		checkRowsApart(t, covers)
		checkRowsApart(t, pairs)
		clear(lone)
		clear(traits)
		clear(more)
	}
	if !sameSightings(list, exampleSightings()) {
		t.Error("a changed result changed an argument", list)
	}
}
