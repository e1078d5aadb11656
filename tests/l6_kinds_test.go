package tests

import (
	"math/rand"
	"slices"
	"strconv"
	"testing"

	"loop.example/g01062/impl"
)

// kindTable makes a table from its sizes and the fields of its bans.
func kindTable(sizes []int, bans ...[4]int) impl.KindTable {
	return impl.KindTable{Sizes: sizes, Bans: bansOf(bans...)}
}

func bansOf(fields ...[4]int) []impl.Ban {
	var bans []impl.Ban
	for _, f := range fields {
		bans = append(bans, impl.Ban{A: f[0], X: f[1], B: f[2], Y: f[3]})
	}
	return bans
}

// allBans makes every ban of some sizes, in order.
func allBans(sizes ...int) [][4]int {
	var bans [][4]int
	for a := range sizes {
		for x := range sizes[a] {
			for b := a + 1; b < len(sizes); b++ {
				for y := range sizes[b] {
					bans = append(bans, [4]int{a, x, b, y})
				}
			}
		}
	}
	return bans
}

// tableOfTwo is a table of two traits, of which the value 0 of the first one goes with one value of the second one alone.
func tableOfTwo() impl.KindTable {
	return kindTable([]int{2, 3}, [4]int{0, 0, 1, 0}, [4]int{0, 0, 1, 1})
}

// goodTables are valid; some are at a limit, or have no compatible kind.
func goodTables() []impl.KindTable {
	return []impl.KindTable{
		tableOfTwo(),
		// One trait alone, which can have no ban.
		kindTable([]int{1}), kindTable([]int{2}), kindTable([]int{5}), {Sizes: []int{3}, Bans: []impl.Ban{}},
		// Five traits, with one value or five.
		kindTable([]int{1, 1, 1, 1, 1}), kindTable([]int{5, 5, 5, 5, 5}), kindTable([]int{5, 1, 5, 1, 5}), kindTable([]int{1, 2, 3, 4, 5}),
		kindTable([]int{1, 1, 1, 1, 1}, allBans(1, 1, 1, 1, 1)...),
		// As many bans as there may be, and all that there are.
		kindTable([]int{5, 5}, allBans(5, 5)[:20]...), kindTable([]int{5, 5}, allBans(5, 5)[5:]...), kindTable([]int{4, 5}, allBans(4, 5)...),
		kindTable([]int{5, 4}, allBans(5, 4)...), kindTable([]int{5, 5, 5, 5, 5}, allBans(5, 5, 5, 5, 5)[:20]...),
		kindTable([]int{5, 5, 5, 5, 5}, allBans(5, 5, 5, 5, 5)[230:]...), kindTable([]int{2, 2, 2}, allBans(2, 2, 2)...),
		// Bans at the last trait and the last value, and only there.
		kindTable([]int{5, 5, 5, 5, 5}, [4]int{3, 4, 4, 4}), kindTable([]int{5, 5, 5, 5, 5}, [4]int{0, 4, 4, 4}), kindTable([]int{2, 3}, [4]int{0, 1, 1, 2}),
		// Ordered by A, then X, then B, then Y.
		kindTable([]int{2, 2, 2}, [4]int{0, 0, 2, 1}, [4]int{0, 1, 1, 0}), kindTable([]int{2, 2, 2}, [4]int{0, 1, 2, 1}, [4]int{1, 0, 2, 0}),
		kindTable([]int{2, 2, 2}, [4]int{0, 0, 1, 1}, [4]int{0, 0, 2, 0}), kindTable([]int{2, 2, 2}, [4]int{0, 0, 1, 0}, [4]int{0, 0, 1, 1}),
		// No kind is compatible.
		kindTable([]int{1, 1}, [4]int{0, 0, 1, 0}), kindTable([]int{2, 1}, [4]int{0, 0, 1, 0}, [4]int{0, 1, 1, 0}),
		kindTable([]int{5, 1, 1}, [4]int{1, 0, 2, 0}),
		// Some bans are needless.
		kindTable([]int{1, 1, 2}, [4]int{0, 0, 2, 0}, [4]int{1, 0, 2, 0}),
		kindTable([]int{2, 2, 2}, [4]int{0, 0, 1, 0}, [4]int{0, 0, 2, 0}, [4]int{1, 0, 2, 1}),
	}
}

// badBans are none for the sizes 2, 3 and 4, each in one or two fields.
func badBans() [][4]int {
	bans := [][4]int{
		// A is not below B.
		{0, 0, 0, 0}, {0, 0, 0, 1}, {1, 1, 1, 2}, {2, 0, 2, 3}, {1, 0, 0, 0}, {2, 1, 0, 1}, {2, 2, 1, 2},
		// A trait or a value that does not exist, though it would be one of another trait.
		{-1, 0, 1, 0}, {0, 0, 3, 0}, {1, 0, 3, 0}, {2, 0, 3, 0}, {3, 0, 4, 0}, {-2, 0, -1, 0},
		{0, -1, 1, 0}, {0, 2, 1, 0}, {0, 2, 2, 2}, {1, 3, 2, 0}, {0, 0, 1, -1}, {0, 0, 1, 3}, {1, 0, 2, 4}, {0, 0, 2, 4}, {0, 2, 1, 3},
	}
	for _, n := range farInts {
		bans = append(bans, [4]int{n, 0, 1, 0}, [4]int{0, n, 1, 0}, [4]int{0, 0, n, 0}, [4]int{0, 0, 1, n}, [4]int{n, 0, n, 0}, [4]int{n, 0, n + 1, 0}, [4]int{n, n, n, n})
	}
	return bans
}

// badTables are not valid.
func badTables() []impl.KindTable {
	list := []impl.KindTable{
		{}, {Sizes: []int{}}, {Bans: bansOf([4]int{0, 0, 1, 0})},
		kindTable([]int{1, 1, 1, 1, 1, 1}), kindTable([]int{5, 5, 5, 5, 5, 5}), kindTable(make([]int, 1000000)), kindTable(slices.Repeat([]int{1}, 1000000)),
		// More bans than there may be.
		kindTable([]int{5, 5}, allBans(5, 5)[:21]...), kindTable([]int{5, 5}, allBans(5, 5)[4:]...), kindTable([]int{3, 7}, allBans(3, 7)...),
		kindTable([]int{5, 5, 5, 5, 5}, allBans(5, 5, 5, 5, 5)...), {Sizes: []int{2, 3}, Bans: make([]impl.Ban, 1000000)},
		// A single trait has no ban.
		kindTable([]int{5}, [4]int{0, 0, 0, 0}), kindTable([]int{5}, [4]int{0, 0, 0, 1}), kindTable([]int{5}, [4]int{0, 0, 1, 0}),
		// Out of order: by A, by X although B ascends, by B although Y ascends, by Y.
		kindTable([]int{2, 2, 2}, [4]int{1, 0, 2, 0}, [4]int{0, 1, 2, 1}), kindTable([]int{2, 2, 2}, [4]int{0, 1, 1, 0}, [4]int{0, 0, 2, 1}),
		kindTable([]int{2, 2, 2}, [4]int{0, 0, 2, 0}, [4]int{0, 0, 1, 1}), kindTable([]int{2, 2, 2}, [4]int{0, 0, 1, 1}, [4]int{0, 0, 1, 0}),
		kindTable([]int{2, 2, 2}, [4]int{0, 0, 1, 0}, [4]int{0, 0, 2, 1}, [4]int{0, 0, 2, 0}),
		kindTable([]int{2, 2, 2}, [4]int{0, 1, 1, 0}, [4]int{0, 0, 1, 0}, [4]int{1, 0, 2, 0}),
		// One twice.
		kindTable([]int{2, 3}, [4]int{0, 0, 1, 0}, [4]int{0, 0, 1, 0}), kindTable([]int{2, 3}, [4]int{0, 0, 1, 0}, [4]int{0, 0, 1, 1}, [4]int{0, 0, 1, 1}),
		kindTable([]int{2, 3}, [4]int{0, 0, 1, 0}, [4]int{0, 0, 1, 1}, [4]int{0, 0, 1, 0}),
	}
	for _, n := range append([]int{-5, -1, 0, 6}, farInts...) {
		list = append(list, kindTable([]int{n}), kindTable([]int{n, 2}), kindTable([]int{2, n}), kindTable([]int{1, 5, 2, 3, n}),
			kindTable([]int{2, 3, n}, [4]int{0, 0, 1, 0}), kindTable([]int{n, n, n, n, n}))
	}
	for _, bad := range badBans() {
		list = append(list, kindTable([]int{2, 3, 4}, bad), kindTable([]int{2, 3, 4}, [4]int{0, 0, 1, 0}, bad), kindTable([]int{2, 3, 4}, bad, [4]int{1, 2, 2, 3}))
	}
	return list
}

// badKinds are none of a table.
func badKinds(table impl.KindTable) [][]int {
	first := make([]int, len(table.Sizes))
	kinds := [][]int{nil, {}, first[1:], append(slices.Clone(first), 0), append(slices.Clone(first), 0, 0, 0, 0, 0), make([]int, 1000000)}
	for trait, size := range table.Sizes {
		for _, n := range append([]int{-1, size, size + 1, 6}, farInts...) {
			kind := slices.Clone(first)
			kind[trait] = n
			kinds = append(kinds, kind)
		}
	}
	return kinds
}

// allKinds returns every kind, compatible or not, in order.
func allKinds(sizes []int) [][]int {
	kinds := [][]int{{}}
	for _, size := range sizes {
		var longer [][]int
		for _, kind := range kinds {
			for value := range size {
				longer = append(longer, append(slices.Clone(kind), value))
			}
		}
		kinds = longer
	}
	return kinds
}

// bansAgainst returns the indices of the bans that forbid a kind.
func bansAgainst(table impl.KindTable, kind []int) []int {
	var against []int
	for i, b := range table.Bans {
		if kind[b.A] == b.X && kind[b.B] == b.Y {
			against = append(against, i)
		}
	}
	return against
}

// compatibleOf returns the compatible kinds.
func compatibleOf(table impl.KindTable) [][]int {
	return slices.DeleteFunc(allKinds(table.Sizes), func(kind []int) bool { return len(bansAgainst(table, kind)) > 0 })
}

// needlessOf returns the indices of the bans of which each kind that they forbid is forbidden by another one, too.
func needlessOf(table impl.KindTable) []int {
	needed := map[int]bool{}
	for _, kind := range allKinds(table.Sizes) {
		if against := bansAgainst(table, kind); len(against) == 1 {
			needed[against[0]] = true
		}
	}
	var needless []int
	for i := range table.Bans {
		if !needed[i] {
			needless = append(needless, i)
		}
	}
	return needless
}

// textOfKind returns the values of a kind in a text.
func textOfKind(kind []int) string {
	text := ""
	for _, value := range kind {
		text += "-" + strconv.Itoa(value)
	}
	return text[1:]
}

// randomTable makes a table with at most MaxBans bans.
func randomTable(r *rand.Rand) impl.KindTable {
	most := 1 + r.Intn(5)
	var sizes []int
	for range 1 + r.Intn(5) {
		sizes = append(sizes, 1+r.Intn(most))
	}
	bans := allBans(sizes...)
	r.Shuffle(len(bans), func(i, j int) { bans[i], bans[j] = bans[j], bans[i] })
	bans = bans[:min(len(bans), r.Intn(impl.MaxBans+1))]
	slices.SortFunc(bans, func(a, b [4]int) int { return slices.Compare(a[:], b[:]) })
	return kindTable(sizes, bans...)
}

func sameKinds(a, b [][]int) bool { return slices.EqualFunc(a, b, slices.Equal[[]int]) }

// walked returns the kinds from the first one on, each one the next behind the one before.
func walked(table impl.KindTable) [][]int {
	var kinds [][]int
	for kind, ok := impl.FirstKind(table); ok; kind, ok = impl.NextKind(table, kind) {
		kinds = append(kinds, kind)
		if len(kinds) > 4000 {
			break
		}
	}
	return kinds
}

func TestConstantsOfKinds(t *testing.T) {
	if impl.MaxTraits != 5 || impl.MaxBans != 20 {
		t.Error("limits", impl.MaxTraits, impl.MaxBans)
	}
}

func TestIsKindTable(t *testing.T) {
	for _, table := range goodTables() {
		if !impl.IsKindTable(table) {
			t.Error("a table", table)
		}
	}
	for i, table := range badTables() {
		if impl.IsKindTable(table) {
			t.Error("no table", i, len(table.Sizes), len(table.Bans))
		}
	}
	for traits := range 8 {
		for size := -1; size <= 7; size++ {
			want := traits >= 1 && traits <= 5 && size >= 1 && size <= 5
			if got := impl.IsKindTable(kindTable(slices.Repeat([]int{size}, traits))); got != want {
				t.Errorf("%d traits with %d values: %v", traits, size, got)
			}
		}
	}
}

func TestEachBanIsOneOrNot(t *testing.T) {
	sizes := []int{2, 1, 3}
	bans := allBans(sizes...)
	for a := -1; a <= 3; a++ {
		for x := -1; x <= 3; x++ {
			for b := -1; b <= 3; b++ {
				for y := -1; y <= 3; y++ {
					fields := [4]int{a, x, b, y}
					want := slices.Contains(bans, fields)
					if got := impl.IsKindTable(kindTable(sizes, fields)); got != want {
						t.Error("ban", fields, got)
					}
					if _, ok := impl.AddBan(kindTable(sizes), bansOf(fields)[0]); ok != want {
						t.Error("added ban", fields, ok)
					}
				}
			}
		}
	}
}

func TestBansAreInOneOrderAlone(t *testing.T) {
	sizes := []int{2, 2, 2, 2}
	bans := allBans(sizes...)
	for i, first := range bans {
		for j, second := range bans {
			if got := impl.IsKindTable(kindTable(sizes, first, second)); got != (i < j) {
				t.Error("bans", first, second, got)
			}
		}
	}
}

func TestIsCompatible(t *testing.T) {
	table := kindTable([]int{3, 3, 3}, [4]int{0, 0, 1, 1}, [4]int{0, 2, 2, 0}, [4]int{1, 1, 2, 2})
	for _, x := range []struct {
		kind []int
		want bool
	}{
		{[]int{0, 0, 0}, true}, {[]int{0, 1, 0}, false}, {[]int{0, 1, 1}, false}, {[]int{0, 2, 1}, true}, {[]int{1, 1, 1}, true}, {[]int{1, 0, 1}, true},
		{[]int{2, 0, 0}, false}, {[]int{2, 1, 0}, false}, {[]int{2, 0, 1}, true}, {[]int{0, 0, 2}, true}, {[]int{2, 1, 2}, false}, {[]int{1, 2, 1}, true},
		// Two bans forbid it.
		{[]int{0, 1, 2}, false},
		// The values of a ban, but of other traits.
		{[]int{1, 0, 0}, true}, {[]int{1, 0, 2}, true}, {[]int{0, 2, 0}, true}, {[]int{2, 2, 2}, true}, {[]int{0, 0, 1}, true},
	} {
		if got, ok := impl.IsCompatible(table, x.kind); !ok || got != x.want {
			t.Errorf("IsCompatible(%v) = %v, %v", x.kind, got, ok)
		}
	}
}

func TestCountCompatible(t *testing.T) {
	for _, x := range []struct {
		table impl.KindTable
		want  int
	}{
		{tableOfTwo(), 4},
		// Without bans, all kinds.
		{kindTable([]int{1}), 1}, {kindTable([]int{5}), 5}, {kindTable([]int{1, 1, 1, 1, 1}), 1}, {kindTable([]int{5, 5, 5, 5, 5}), 3125},
		{kindTable([]int{1, 2, 3, 4, 5}), 120}, {kindTable([]int{5, 1, 5, 1, 5}), 125},
		// One ban takes away the kinds of all other traits.
		{kindTable([]int{5, 5, 5, 5, 5}, [4]int{0, 0, 1, 0}), 3000}, {kindTable([]int{5, 5, 5, 5, 5}, [4]int{3, 4, 4, 4}), 3000}, {kindTable([]int{2, 3}, [4]int{0, 1, 1, 2}), 5},
		// Two bans that have kinds in common, or none.
		{kindTable([]int{2, 2, 2}, [4]int{0, 0, 1, 0}, [4]int{0, 0, 2, 0}), 5}, {kindTable([]int{2, 2, 2}, [4]int{0, 0, 1, 0}, [4]int{0, 1, 2, 0}), 4},
		{kindTable([]int{5, 5}, allBans(5, 5)[:20]...), 5},
		// No kind is left.
		{kindTable([]int{1, 1}, [4]int{0, 0, 1, 0}), 0}, {kindTable([]int{4, 5}, allBans(4, 5)...), 0}, {kindTable([]int{5, 1, 1}, [4]int{1, 0, 2, 0}), 0},
		{kindTable([]int{2, 1}, [4]int{0, 0, 1, 0}, [4]int{0, 1, 1, 0}), 0}, {kindTable([]int{2, 1, 1, 1, 1}, [4]int{3, 0, 4, 0}), 0},
	} {
		if got, ok := impl.CountCompatible(x.table); !ok || got != x.want {
			t.Errorf("CountCompatible(%v) = %d, %v, not %d", x.table, got, ok, x.want)
		}
	}
}

func TestFirstKind(t *testing.T) {
	for _, x := range []struct {
		table impl.KindTable
		want  []int
	}{
		{tableOfTwo(), []int{0, 2}},
		{kindTable([]int{1}), []int{0}},
		{kindTable([]int{5, 5, 5, 5, 5}), []int{0, 0, 0, 0, 0}},
		{kindTable([]int{2, 2, 2}, [4]int{0, 1, 1, 1}), []int{0, 0, 0}},
		{kindTable([]int{2, 2, 2}, [4]int{0, 0, 1, 0}), []int{0, 1, 0}},
		{kindTable([]int{2, 2, 2}, [4]int{0, 0, 2, 0}), []int{0, 0, 1}},
		{kindTable([]int{2, 2, 2}, [4]int{0, 0, 1, 0}, [4]int{0, 0, 1, 1}), []int{1, 0, 0}},
		{kindTable([]int{2, 2, 2}, [4]int{1, 0, 2, 0}, [4]int{1, 0, 2, 1}), []int{0, 1, 0}},
		// A later ban forbids what an earlier one leaves.
		{kindTable([]int{3, 3, 3}, [4]int{0, 0, 2, 0}, [4]int{1, 0, 2, 1}, [4]int{1, 0, 2, 2}), []int{0, 1, 1}},
		{kindTable([]int{2, 2, 2}, [4]int{0, 0, 1, 1}, [4]int{0, 0, 2, 0}, [4]int{1, 0, 2, 1}), []int{1, 0, 0}},
		// The last kind is the only one.
		{kindTable([]int{2, 2}, [4]int{0, 0, 1, 0}, [4]int{0, 0, 1, 1}, [4]int{0, 1, 1, 0}), []int{1, 1}},
		{kindTable([]int{5, 5}, allBans(5, 5)[:20]...), []int{4, 0}},
		{kindTable([]int{5, 5}, allBans(5, 5)[5:]...), []int{0, 0}},
		// There is none.
		{kindTable([]int{1, 1}, [4]int{0, 0, 1, 0}), nil},
		{kindTable([]int{4, 5}, allBans(4, 5)...), nil},
		{kindTable([]int{5, 1, 1}, [4]int{1, 0, 2, 0}), nil},
		{kindTable([]int{2, 2, 2}, allBans(2, 2, 2)...), nil},
	} {
		if got, ok := impl.FirstKind(x.table); ok != (x.want != nil) || !slices.Equal(got, x.want) {
			t.Errorf("FirstKind(%v) = %v, %v", x.table, got, ok)
		}
	}
}

func TestNextKind(t *testing.T) {
	loose := kindTable([]int{2, 3, 2})
	table := kindTable([]int{3, 3, 3}, [4]int{0, 0, 1, 1}, [4]int{0, 1, 2, 0}, [4]int{1, 2, 2, 2})
	for _, x := range []struct {
		table impl.KindTable
		kind  []int
		want  []int
	}{
		{tableOfTwo(), []int{0, 2}, []int{1, 0}},
		{tableOfTwo(), []int{1, 1}, []int{1, 2}},
		// From a kind that is not compatible itself.
		{tableOfTwo(), []int{0, 0}, []int{0, 2}},
		{tableOfTwo(), []int{0, 1}, []int{0, 2}},
		{table, []int{0, 1, 0}, []int{0, 2, 0}},
		{table, []int{0, 1, 2}, []int{0, 2, 0}},
		{table, []int{0, 2, 2}, []int{1, 0, 1}},
		{table, []int{1, 2, 2}, []int{2, 0, 0}},
		// The next one is not compatible.
		{table, []int{0, 0, 2}, []int{0, 2, 0}},
		{table, []int{0, 2, 1}, []int{1, 0, 1}},
		{table, []int{1, 0, 2}, []int{1, 1, 1}},
		{table, []int{2, 1, 2}, []int{2, 2, 0}},
		{loose, []int{0, 0, 0}, []int{0, 0, 1}},
		{loose, []int{0, 0, 1}, []int{0, 1, 0}},
		{loose, []int{0, 2, 1}, []int{1, 0, 0}},
		{loose, []int{1, 2, 0}, []int{1, 2, 1}},
		{kindTable([]int{5}), []int{3}, []int{4}},
		{kindTable([]int{5, 1, 1, 1, 1}), []int{3, 0, 0, 0, 0}, []int{4, 0, 0, 0, 0}},
		// There is none behind the last compatible kind, be it the last one or not, and none in a table without any.
		{loose, []int{1, 2, 1}, nil},
		{tableOfTwo(), []int{1, 2}, nil},
		{table, []int{2, 2, 1}, nil},
		{table, []int{2, 2, 2}, nil},
		{kindTable([]int{2, 2}, [4]int{0, 1, 1, 1}), []int{1, 0}, nil},
		{kindTable([]int{2, 2}, [4]int{0, 1, 1, 1}), []int{1, 1}, nil},
		{kindTable([]int{2, 2}, [4]int{0, 1, 1, 0}, [4]int{0, 1, 1, 1}), []int{0, 1}, nil},
		{kindTable([]int{1}), []int{0}, nil},
		{kindTable([]int{5}), []int{4}, nil},
		{kindTable([]int{5, 5, 5, 5, 5}), []int{4, 4, 4, 4, 4}, nil},
		{kindTable([]int{1, 1}, [4]int{0, 0, 1, 0}), []int{0, 0}, nil},
		{kindTable([]int{4, 5}, allBans(4, 5)...), []int{0, 0}, nil},
	} {
		if got, ok := impl.NextKind(x.table, x.kind); ok != (x.want != nil) || !slices.Equal(got, x.want) {
			t.Errorf("NextKind(%v, %v) = %v, %v", x.table, x.kind, got, ok)
		}
	}
}

func TestKindsWith(t *testing.T) {
	for _, x := range []struct {
		table              impl.KindTable
		trait, value, want int
	}{
		{tableOfTwo(), 0, 0, 1}, {tableOfTwo(), 0, 1, 3}, {tableOfTwo(), 1, 0, 1}, {tableOfTwo(), 1, 1, 1}, {tableOfTwo(), 1, 2, 2},
		{kindTable([]int{5}), 0, 4, 1}, {kindTable([]int{1}), 0, 0, 1},
		{kindTable([]int{5, 5, 5, 5, 5}), 0, 0, 625}, {kindTable([]int{5, 5, 5, 5, 5}), 4, 4, 625}, {kindTable([]int{1, 2, 3, 4, 5}), 0, 0, 120},
		{kindTable([]int{1, 2, 3, 4, 5}), 4, 4, 24}, {kindTable([]int{1, 2, 3, 4, 5}), 2, 1, 40},
		{kindTable([]int{5, 5, 5, 5, 5}, [4]int{0, 0, 1, 0}), 0, 0, 500}, {kindTable([]int{5, 5, 5, 5, 5}, [4]int{0, 0, 1, 0}), 1, 1, 625},
		{kindTable([]int{5, 5, 5, 5, 5}, [4]int{0, 0, 1, 0}), 4, 0, 600},
		// No compatible kind has it, or there is none at all.
		{kindTable([]int{2, 2}, [4]int{0, 0, 1, 0}, [4]int{0, 0, 1, 1}), 0, 0, 0}, {kindTable([]int{1, 1}, [4]int{0, 0, 1, 0}), 1, 0, 0},
	} {
		if got, ok := impl.KindsWith(x.table, x.trait, x.value); !ok || got != x.want {
			t.Errorf("KindsWith(%v, %d, %d) = %d, %v, not %d", x.table, x.trait, x.value, got, ok, x.want)
		}
	}
}

func TestKindsWithWhatDoesNotExist(t *testing.T) {
	table := kindTable([]int{2, 3, 1}, [4]int{0, 0, 1, 0})
	for trait := -2; trait <= 6; trait++ {
		for value := -2; value <= 6; value++ {
			exists := trait >= 0 && trait < 3 && value >= 0 && value < table.Sizes[trait]
			if got, ok := impl.KindsWith(table, trait, value); ok != exists || !ok && got != 0 {
				t.Errorf("KindsWith %d, %d = %d, %v", trait, value, got, ok)
			}
		}
	}
	for _, n := range farInts {
		for _, pair := range [][2]int{{n, 0}, {0, n}, {2, n}, {n, n}} {
			if got, ok := impl.KindsWith(table, pair[0], pair[1]); ok || got != 0 {
				t.Errorf("KindsWith %v = %d, %v", pair, got, ok)
			}
		}
	}
}

func TestDeadValues(t *testing.T) {
	for _, x := range []struct {
		table impl.KindTable
		want  [][2]int
	}{
		{tableOfTwo(), nil},
		{kindTable([]int{5, 5, 5, 5, 5}), nil},
		{kindTable([]int{1}), nil},
		// All values of another trait are forbidden beside it, above or below it.
		{kindTable([]int{2, 3}, [4]int{0, 0, 1, 0}, [4]int{0, 0, 1, 1}, [4]int{0, 0, 1, 2}), [][2]int{{0, 0}}},
		{kindTable([]int{2, 3}, [4]int{0, 0, 1, 1}, [4]int{0, 1, 1, 1}), [][2]int{{1, 1}}},
		{kindTable([]int{2, 1}, [4]int{0, 1, 1, 0}), [][2]int{{0, 1}}},
		// No ban forbids it beside any other value, but beside all of them two others forbid each other.
		{kindTable([]int{2, 2, 2}, [4]int{0, 0, 1, 0}, [4]int{0, 0, 2, 0}, [4]int{1, 1, 2, 1}), [][2]int{{0, 0}}},
		// Two of them, also of one trait.
		{kindTable([]int{3, 1, 2}, [4]int{0, 1, 1, 0}, [4]int{0, 2, 1, 0}), [][2]int{{0, 1}, {0, 2}}},
		{kindTable([]int{2, 1, 2}, [4]int{0, 1, 1, 0}, [4]int{1, 0, 2, 0}), [][2]int{{0, 1}, {2, 0}}},
		{kindTable([]int{5, 5}, allBans(5, 5)[:20]...), [][2]int{{0, 0}, {0, 1}, {0, 2}, {0, 3}}},
		// All of them, as no kind is compatible.
		{kindTable([]int{1, 1}, [4]int{0, 0, 1, 0}), [][2]int{{0, 0}, {1, 0}}},
		{kindTable([]int{3, 1, 1}, [4]int{1, 0, 2, 0}), [][2]int{{0, 0}, {0, 1}, {0, 2}, {1, 0}, {2, 0}}},
	} {
		if got, ok := impl.DeadValues(x.table); !ok || !slices.Equal(got, x.want) {
			t.Errorf("DeadValues(%v) = %v, %v", x.table, got, ok)
		}
	}
}

func TestNeedlessBans(t *testing.T) {
	for _, x := range []struct {
		table impl.KindTable
		want  []int
	}{
		{tableOfTwo(), nil},
		{kindTable([]int{5}), nil},
		{kindTable([]int{5, 5, 5, 5, 5}), nil},
		{kindTable([]int{5, 5}, allBans(5, 5)[:20]...), nil},
		{kindTable([]int{5, 5, 5, 5, 5}, [4]int{3, 4, 4, 4}), nil},
		// Two others together forbid what the first one does, and they are not needless.
		{kindTable([]int{2, 2, 2}, [4]int{0, 0, 1, 0}, [4]int{0, 0, 2, 0}, [4]int{1, 0, 2, 1}), []int{0}},
		{kindTable([]int{2, 2, 2}, [4]int{0, 0, 1, 0}, [4]int{0, 0, 2, 0}, [4]int{1, 1, 2, 0}), []int{1}},
		{kindTable([]int{2, 2, 2}, [4]int{0, 0, 1, 0}, [4]int{0, 1, 2, 0}, [4]int{1, 0, 2, 0}), []int{2}},
		// A further value leaves a kind that the first one alone forbids.
		{kindTable([]int{2, 2, 3}, [4]int{0, 0, 1, 0}, [4]int{0, 0, 2, 0}, [4]int{1, 0, 2, 1}), nil},
		// Each one is needless while the other one is there, and not without it.
		{kindTable([]int{1, 1, 2}, [4]int{0, 0, 2, 0}, [4]int{1, 0, 2, 0}), []int{0, 1}},
		{kindTable([]int{1, 1, 2}, [4]int{0, 0, 2, 0}), nil},
		{kindTable([]int{1, 1, 2}, [4]int{1, 0, 2, 0}), nil},
		{kindTable([]int{2, 1, 1}, [4]int{0, 0, 1, 0}, [4]int{0, 0, 2, 0}, [4]int{0, 1, 1, 0}), []int{0, 1}},
		// No kind is compatible, with each one of several bans alone or with all of them.
		{kindTable([]int{1, 1}, [4]int{0, 0, 1, 0}), nil},
		{kindTable([]int{1, 1, 1}, [4]int{0, 0, 1, 0}, [4]int{0, 0, 2, 0}, [4]int{1, 0, 2, 0}), []int{0, 1, 2}},
		{kindTable([]int{2, 1, 1}, [4]int{0, 0, 1, 0}, [4]int{1, 0, 2, 0}), []int{0}},
		{kindTable([]int{2, 1}, [4]int{0, 0, 1, 0}, [4]int{0, 1, 1, 0}), nil},
		{kindTable([]int{4, 5}, allBans(4, 5)...), nil},
		{kindTable([]int{1, 1, 1, 1, 1}, allBans(1, 1, 1, 1, 1)...), []int{0, 1, 2, 3, 4, 5, 6, 7, 8, 9}},
		// Both values of a trait forbid the same one of another trait, so no other ban needs to do so.
		{kindTable([]int{2, 2, 2}, [4]int{0, 0, 2, 0}, [4]int{0, 1, 2, 0}, [4]int{1, 0, 2, 0}), []int{2}},
		{kindTable([]int{2, 2, 2}, [4]int{0, 0, 2, 0}, [4]int{0, 1, 2, 0}, [4]int{1, 0, 2, 0}, [4]int{1, 1, 2, 0}), []int{0, 1, 2, 3}},
	} {
		if got, ok := impl.NeedlessBans(x.table); !ok || !slices.Equal(got, x.want) {
			t.Errorf("NeedlessBans(%v) = %v, %v", x.table, got, ok)
		}
	}
}

func TestNeedlessBansChangeNoKindAlone(t *testing.T) {
	r := rand.New(rand.NewSource(61))
	seen := map[bool]int{}
	for range 1500 {
		table := randomTable(r)
		got, ok := impl.NeedlessBans(table)
		if !ok || !slices.Equal(got, needlessOf(table)) {
			t.Fatalf("NeedlessBans(%v) = %v, %v", table, got, ok)
		}
		kinds := walked(table)
		for i := range table.Bans {
			without := impl.KindTable{Sizes: table.Sizes, Bans: slices.Delete(slices.Clone(table.Bans), i, i+1)}
			needless := slices.Contains(got, i)
			if sameKinds(walked(without), kinds) != needless {
				t.Fatalf("ban %d of %v: needless %v", i, table, needless)
			}
			seen[needless]++
		}
	}
	if seen[true] < 500 || seen[false] < 500 {
		t.Error("too few", seen)
	}
}

func TestKindText(t *testing.T) {
	for _, x := range []struct {
		table impl.KindTable
		kind  []int
		want  string
	}{
		{tableOfTwo(), []int{0, 0}, "0-0!"}, {tableOfTwo(), []int{0, 1}, "0-1!"}, {tableOfTwo(), []int{0, 2}, "0-2"}, {tableOfTwo(), []int{1, 2}, "1-2"},
		{kindTable([]int{1}), []int{0}, "0"}, {kindTable([]int{5}), []int{4}, "4"},
		{kindTable([]int{5, 5, 5, 5, 5}), []int{4, 3, 2, 1, 0}, "4-3-2-1-0"}, {kindTable([]int{5, 5, 5, 5, 5}, [4]int{0, 4, 4, 0}), []int{4, 3, 2, 1, 0}, "4-3-2-1-0!"},
		// Several bans forbid it.
		{kindTable([]int{1, 1, 1}, allBans(1, 1, 1)...), []int{0, 0, 0}, "0-0-0!"},
	} {
		if got, ok := impl.KindText(x.table, x.kind); !ok || got != x.want {
			t.Errorf("KindText(%v, %v) = %q, %v, not %q", x.table, x.kind, got, ok, x.want)
		}
	}
}

// checkTable compares what is told of the kinds of a table with a reckoning of all kinds.
func checkTable(t *testing.T, table impl.KindTable) {
	t.Helper()
	kinds := compatibleOf(table)
	if got := walked(table); !sameKinds(got, kinds) {
		t.Fatalf("%v: walked %v, not %v", table, got, kinds)
	}
	if got, ok := impl.CountCompatible(table); !ok || got != len(kinds) {
		t.Fatalf("CountCompatible(%v) = %d, %v, not %d", table, got, ok, len(kinds))
	}
	behind := 0
	for _, kind := range allKinds(table.Sizes) {
		compatible := behind < len(kinds) && slices.Equal(kinds[behind], kind)
		text := textOfKind(kind)
		if compatible {
			behind++
		} else {
			text += "!"
		}
		if got, ok := impl.IsCompatible(table, kind); !ok || got != compatible {
			t.Fatalf("IsCompatible(%v, %v) = %v, %v", table, kind, got, ok)
		}
		if got, ok := impl.KindText(table, kind); !ok || got != text {
			t.Fatalf("KindText(%v, %v) = %q, %v, not %q", table, kind, got, ok, text)
		}
		var next []int
		if behind < len(kinds) {
			next = kinds[behind]
		}
		if got, ok := impl.NextKind(table, kind); ok != (next != nil) || !slices.Equal(got, next) {
			t.Fatalf("NextKind(%v, %v) = %v, %v, not %v", table, kind, got, ok, next)
		}
	}
	var dead [][2]int
	for trait, size := range table.Sizes {
		for value := range size {
			want := 0
			for _, kind := range kinds {
				if kind[trait] == value {
					want++
				}
			}
			if got, ok := impl.KindsWith(table, trait, value); !ok || got != want {
				t.Fatalf("KindsWith(%v, %d, %d) = %d, %v, not %d", table, trait, value, got, ok, want)
			}
			if want == 0 {
				dead = append(dead, [2]int{trait, value})
			}
		}
	}
	if got, ok := impl.DeadValues(table); !ok || !slices.Equal(got, dead) {
		t.Fatalf("DeadValues(%v) = %v, %v, not %v", table, got, ok, dead)
	}
	if got, ok := impl.NeedlessBans(table); !ok || !slices.Equal(got, needlessOf(table)) {
		t.Fatalf("NeedlessBans(%v) = %v, %v, not %v", table, got, ok, needlessOf(table))
	}
}

func TestKindsFromTheFirstOnAreAllCompatibleOnes(t *testing.T) {
	for _, table := range goodTables() {
		checkTable(t, table)
	}
	r := rand.New(rand.NewSource(62))
	dead, full := 0, 0
	for range 600 {
		table := randomTable(r)
		checkTable(t, table)
		if len(compatibleOf(table)) == 0 {
			dead++
		}
		if len(table.Bans) == impl.MaxBans {
			full++
		}
	}
	if dead < 20 || full < 5 {
		t.Error("too few tables without a compatible kind, or with all bans", dead, full)
	}
}

func TestKindsOfEachFewBans(t *testing.T) {
	sizes := []int{2, 1, 3}
	bans := allBans(sizes...)
	for chosen := range 1 << len(bans) {
		var few [][4]int
		for i, b := range bans {
			if chosen>>i&1 == 1 {
				few = append(few, b)
			}
		}
		checkTable(t, kindTable(sizes, few...))
	}
}

func TestAddBan(t *testing.T) {
	sizes := []int{3, 3, 3}
	table := kindTable(sizes, [4]int{0, 1, 1, 1}, [4]int{0, 1, 2, 1}, [4]int{1, 1, 2, 1})
	for _, x := range []struct {
		b    [4]int
		want int
	}{
		// In the first place and in the last one.
		{[4]int{0, 0, 1, 0}, 0}, {[4]int{0, 0, 2, 2}, 0}, {[4]int{0, 1, 1, 0}, 0}, {[4]int{1, 1, 2, 2}, 3}, {[4]int{1, 2, 2, 0}, 3},
		// Between others.
		{[4]int{0, 1, 1, 2}, 1}, {[4]int{0, 1, 2, 0}, 1}, {[4]int{0, 1, 2, 2}, 2}, {[4]int{0, 2, 1, 0}, 2}, {[4]int{1, 0, 2, 2}, 2}, {[4]int{1, 1, 2, 0}, 2},
	} {
		b := bansOf(x.b)[0]
		want := slices.Insert(slices.Clone(table.Bans), x.want, b)
		if got, ok := impl.AddBan(table, b); !ok || !slices.Equal(got.Sizes, sizes) || !slices.Equal(got.Bans, want) {
			t.Errorf("AddBan of %v = %v, %v", x.b, got, ok)
		}
	}
	// To none.
	if got, ok := impl.AddBan(kindTable([]int{1, 1}), impl.Ban{B: 1}); !ok || !slices.Equal(got.Sizes, []int{1, 1}) || !slices.Equal(got.Bans, []impl.Ban{{B: 1}}) {
		t.Error("to none", got, ok)
	}
}

func TestAddBanFails(t *testing.T) {
	refused := func(table impl.KindTable, b impl.Ban) {
		t.Helper()
		if got, ok := impl.AddBan(table, b); ok || len(got.Sizes) != 0 || len(got.Bans) != 0 {
			t.Errorf("AddBan to %d bans of %v = %v, %v", len(table.Bans), b, got, ok)
		}
	}
	// It is there already.
	for _, table := range goodTables() {
		for _, b := range table.Bans {
			refused(table, b)
		}
	}
	// One beyond the limit, whose place may be the first one, the last one or another one.
	bans := allBans(5, 5)
	for left := range bans {
		full := slices.Delete(slices.Clone(bans), left, left+1)
		for len(full) > impl.MaxBans {
			full = full[:len(full)-1]
		}
		if nineteen := kindTable([]int{5, 5}, full[1:]...); !impl.IsKindTable(nineteen) {
			t.Fatal("the test itself")
		} else if got, ok := impl.AddBan(nineteen, bansOf(bans[left])[0]); !ok || len(got.Bans) != impl.MaxBans {
			t.Error("to nineteen", bans[left], got, ok)
		}
		refused(kindTable([]int{5, 5}, full...), bansOf(bans[left])[0])
	}
	for _, bad := range badBans() {
		refused(kindTable([]int{2, 3, 4}), bansOf(bad)[0])
		refused(kindTable([]int{2, 3, 4}, [4]int{0, 0, 1, 0}, [4]int{1, 2, 2, 3}), bansOf(bad)[0])
	}
	refused(kindTable([]int{5}), impl.Ban{})
	refused(kindTable([]int{5}), impl.Ban{B: 1})
	// A ban does not make a table valid.
	for _, table := range badTables() {
		refused(table, impl.Ban{A: 0, X: 0, B: 1, Y: 0})
		refused(table, impl.Ban{A: 0, X: 0, B: 1, Y: 2})
		refused(table, impl.Ban{})
	}
}

func TestBansAreAddedInAnyOrder(t *testing.T) {
	r := rand.New(rand.NewSource(63))
	for range 1000 {
		want := randomTable(r)
		got := impl.KindTable{Sizes: want.Sizes}
		for _, i := range r.Perm(len(want.Bans)) {
			added, ok := impl.AddBan(got, want.Bans[i])
			if !ok || len(added.Bans) != len(got.Bans)+1 {
				t.Fatal("not added", want.Bans[i], got, added, ok)
			}
			before, _ := impl.CountCompatible(got)
			if behind, ok := impl.CountCompatible(added); !ok || behind > before {
				t.Fatal("a ban added kinds", want.Bans[i], got, before, behind)
			}
			got = added
		}
		if !slices.Equal(got.Sizes, want.Sizes) || !slices.Equal(got.Bans, want.Bans) {
			t.Fatalf("added to %v, not %v", got, want)
		}
	}
}

func TestKindsThatAreNone(t *testing.T) {
	refused := func(table impl.KindTable, kind []int) {
		t.Helper()
		if got, ok := impl.IsCompatible(table, kind); ok || got {
			t.Errorf("IsCompatible of %d values = %v, %v", len(kind), got, ok)
		}
		if got, ok := impl.NextKind(table, kind); ok || len(got) != 0 {
			t.Errorf("NextKind of %d values = %v, %v", len(kind), got, ok)
		}
		if got, ok := impl.KindText(table, kind); ok || got != "" {
			t.Errorf("KindText of %d values = %q, %v", len(kind), got, ok)
		}
	}
	for _, table := range goodTables() {
		for _, kind := range badKinds(table) {
			refused(table, kind)
		}
	}
	// A value of another trait.
	refused(tableOfTwo(), []int{2, 0})
	refused(tableOfTwo(), []int{2, 1})
	for _, table := range badTables() {
		for _, kind := range [][]int{nil, {0}, {0, 0}, {0, 0, 0}, {1, 1, 1}, {0, 0, 0, 0, 0}, {0, 0, 0, 0, 0, 0}} {
			refused(table, kind)
		}
	}
}

func TestTablesThatAreNone(t *testing.T) {
	for i, table := range badTables() {
		if got, ok := impl.CountCompatible(table); ok || got != 0 {
			t.Error("CountCompatible", i, got, ok)
		}
		if got, ok := impl.FirstKind(table); ok || len(got) != 0 {
			t.Error("FirstKind", i, got, ok)
		}
		if got, ok := impl.KindsWith(table, 0, 0); ok || got != 0 {
			t.Error("KindsWith", i, got, ok)
		}
		if got, ok := impl.KindsWith(table, 1, 1); ok || got != 0 {
			t.Error("KindsWith", i, got, ok)
		}
		if got, ok := impl.DeadValues(table); ok || len(got) != 0 {
			t.Error("DeadValues", i, got, ok)
		}
		if got, ok := impl.NeedlessBans(table); ok || len(got) != 0 {
			t.Error("NeedlessBans", i, got, ok)
		}
	}
}

func TestKindsChangeNoArgument(t *testing.T) {
	sizes := []int{2, 3, 1, -1, 7}
	// What lies beyond the lengths makes none of them valid.
	bans := bansOf([4]int{0, 0, 1, 0}, [4]int{0, 0, 1, 1}, [4]int{0, 0, 1, 1}, [4]int{9, 9, 9, 9})
	kind := []int{0, 2, 0, 9}
	keptSizes, keptBans, keptKind := slices.Clone(sizes), slices.Clone(bans), slices.Clone(kind)
	table := impl.KindTable{Sizes: sizes[:2], Bans: bans[:2]}
	if !impl.IsKindTable(table) {
		t.Error("a table")
	}
	if got, ok := impl.IsCompatible(table, kind[:2]); !ok || !got {
		t.Error("compatible", got, ok)
	}
	if got, ok := impl.CountCompatible(table); !ok || got != 4 {
		t.Error("count", got, ok)
	}
	if got, ok := impl.FirstKind(table); !ok || !slices.Equal(got, []int{0, 2}) {
		t.Error("first", got, ok)
	}
	if got, ok := impl.NextKind(table, kind[:2]); !ok || !slices.Equal(got, []int{1, 0}) {
		t.Error("next", got, ok)
	}
	if got, ok := impl.KindsWith(table, 1, 2); !ok || got != 2 {
		t.Error("with", got, ok)
	}
	if got, ok := impl.DeadValues(table); !ok || len(got) != 0 {
		t.Error("dead", got, ok)
	}
	for _, b := range bansOf([4]int{0, 0, 1, 2}, [4]int{0, 1, 1, 0}) {
		if got, ok := impl.AddBan(table, b); !ok || len(got.Bans) != 3 || got.Bans[2] != b {
			t.Error("added", got, ok)
		}
	}
	if got, ok := impl.NeedlessBans(table); !ok || len(got) != 0 {
		t.Error("needless", got, ok)
	}
	if got, ok := impl.KindText(table, kind[:2]); !ok || got != "0-2" {
		t.Error("text", got, ok)
	}
	impl.NextKind(table, kind)
	impl.NextKind(impl.KindTable{Sizes: sizes, Bans: bans}, kind)
	impl.AddBan(impl.KindTable{Sizes: sizes[:2], Bans: bans[:3]}, impl.Ban{B: 1})
	impl.NeedlessBans(impl.KindTable{Sizes: sizes[:3], Bans: bans[:1]})
	impl.AddBan(impl.KindTable{Sizes: sizes[:3], Bans: bans[:1]}, bans[1])
	impl.AddBan(impl.KindTable{Sizes: sizes[:3], Bans: bans[1:2]}, bans[0])
	if !slices.Equal(sizes, keptSizes) || !slices.Equal(bans, keptBans) || !slices.Equal(kind, keptKind) {
		t.Error("an argument was changed", sizes, bans, kind)
	}
}

func TestResultsOfKindsAreNew(t *testing.T) {
	table := tableOfTwo()
	kind := []int{0, 0}
	first, _ := impl.FirstKind(table)
	next, _ := impl.NextKind(table, kind)
	first[0], next[0], next[1] = 9, 9, 9
	if !slices.Equal(kind, []int{0, 0}) {
		t.Error("a changed kind changed an argument", kind)
	}
	for _, b := range bansOf([4]int{0, 0, 1, 2}, [4]int{0, 1, 1, 0}) {
		added, _ := impl.AddBan(table, b)
		again, _ := impl.AddBan(table, b)
		for i := range added.Sizes {
			added.Sizes[i] = 9
		}
		for i := range added.Bans {
			added.Bans[i] = impl.Ban{A: 9}
		}
		if !slices.Equal(again.Sizes, []int{2, 3}) || again.Bans[2] != b {
			t.Error("a changed table changed another one", again)
		}
	}
	if want := tableOfTwo(); !slices.Equal(table.Sizes, want.Sizes) || !slices.Equal(table.Bans, want.Bans) {
		t.Error("a changed result changed an argument", table)
	}
	if got := walked(table); !sameKinds(got, [][]int{{0, 2}, {1, 0}, {1, 1}, {1, 2}}) {
		t.Error("a changed result changed what follows", got)
	}
}
