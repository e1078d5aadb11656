package tests

import (
	"math/rand"
	"slices"
	"testing"

	"loop.example/g01062/impl"
)

var goodRate = impl.Rate{Zone: 2, Grams: 20, From: 10, Until: 19, Cents: 5}

var exampleRates = ratesOf(
	[5]int{0, 20, 0, 9, 5},
	[5]int{0, 20, 10, 19, 6},
	[5]int{0, 50, 0, 29, 8},
	[5]int{1, 20, 0, 19, 5},
	[5]int{9, 100, 15, 30, 4},
)

// farZones are none.
var farZones = append([]int{-10, -9, -2, -1, 10, 11, 19, 20, 99}, farInts...)

// farWeights are none.
var farWeights = append([]int{-2000, -20, -2, -1, 0, 2001, 2002, 4000, 9999}, farInts...)

// farDays are none.
var farDays = append([]int{-4000, -2, -1, 4001, 4002, 8000, 9999}, farInts...)

// farRates are no numbers of cents that a letter can cost.
var farRates = append([]int{-9999, -5, -1, 0, 10000, 10001, 99999}, farInts...)

// ratesOf makes rates of Zone, Grams, From, Until and Cents.
func ratesOf(fields ...[5]int) []impl.Rate {
	list := []impl.Rate{}
	for _, x := range fields {
		list = append(list, impl.Rate{Zone: x[0], Grams: x[1], From: x[2], Until: x[3], Cents: x[4]})
	}
	return list
}

// ratesWith makes as many rates of one Zone and Grams as are told, each for one day, with a day between each two of them.
func ratesWith(count int) []impl.Rate {
	list := []impl.Rate{}
	for i := range count {
		list = append(list, impl.Rate{Zone: 2, Grams: 20, From: 2 * i, Until: 2 * i, Cents: 1 + i})
	}
	return list
}

// badRates are not valid, each in one field, or in From and Until together.
func badRates() []impl.Rate {
	list := []impl.Rate{{}, {Zone: 2, From: 10, Until: 19, Cents: 5}, {Zone: 2, Grams: 20, From: 10, Until: 19}, {Zone: 2, Grams: 20, From: 10, Cents: 5}}
	for _, n := range farZones {
		list = append(list, impl.Rate{Zone: n, Grams: 20, From: 10, Until: 19, Cents: 5})
	}
	for _, n := range farWeights {
		list = append(list, impl.Rate{Zone: 2, Grams: n, From: 10, Until: 19, Cents: 5})
	}
	for _, n := range farRates {
		list = append(list, impl.Rate{Zone: 2, Grams: 20, From: 10, Until: 19, Cents: n})
	}
	for _, n := range farDays {
		list = append(list, impl.Rate{Zone: 2, Grams: 20, From: n, Until: 19, Cents: 5}, impl.Rate{Zone: 2, Grams: 20, From: 10, Until: n, Cents: 5},
			impl.Rate{Zone: 2, Grams: 20, From: n, Until: n, Cents: 5})
	}
	for _, x := range [][2]int{{1, 0}, {11, 10}, {19, 10}, {4000, 0}, {4000, 3999}} {
		list = append(list, impl.Rate{Zone: 2, Grams: 20, From: x[0], Until: x[1], Cents: 5})
	}
	return list
}

// badRateLists are no Rates.
func badRateLists() [][]impl.Rate {
	lists := [][]impl.Rate{
		ratesWith(impl.MaxRates + 1),
		ratesWith(100),
		make([]impl.Rate, 1),
		make([]impl.Rate, 1000000),
		// The same rate twice, behind each other, behind another one, and with others between.
		{goodRate, goodRate},
		ratesOf([5]int{0, 20, 0, 9, 5}, [5]int{2, 20, 10, 19, 5}, [5]int{2, 20, 10, 19, 5}),
		ratesOf([5]int{2, 20, 10, 19, 5}, [5]int{2, 20, 30, 39, 5}, [5]int{2, 20, 10, 19, 5}),
		// The same Zone, Grams and From, with other days or Cents.
		ratesOf([5]int{2, 20, 10, 19, 5}, [5]int{2, 20, 10, 19, 6}),
		ratesOf([5]int{2, 20, 10, 19, 5}, [5]int{2, 20, 10, 30, 5}),
		ratesOf([5]int{2, 20, 10, 10, 5}, [5]int{2, 20, 10, 10, 6}),
		// One common day, and more of them.
		ratesOf([5]int{2, 20, 10, 19, 5}, [5]int{2, 20, 19, 30, 6}),
		ratesOf([5]int{2, 20, 10, 19, 5}, [5]int{2, 20, 19, 19, 5}),
		ratesOf([5]int{2, 20, 10, 19, 5}, [5]int{2, 20, 11, 12, 6}),
		ratesOf([5]int{2, 20, 0, 4000, 5}, [5]int{2, 20, 4000, 4000, 6}),
		ratesOf([5]int{2, 20, 0, 9, 5}, [5]int{2, 20, 10, 19, 6}, [5]int{2, 20, 19, 29, 7}),
		ratesOf([5]int{2, 10, 0, 9, 5}, [5]int{2, 20, 10, 19, 6}, [5]int{2, 20, 19, 29, 7}, [5]int{3, 20, 0, 9, 5}),
		// Out of order by Zone, whatever the others are.
		ratesOf([5]int{3, 20, 10, 19, 5}, [5]int{2, 20, 10, 19, 5}),
		ratesOf([5]int{3, 20, 10, 19, 5}, [5]int{2, 50, 30, 39, 6}),
		ratesOf([5]int{0, 20, 10, 19, 5}, [5]int{9, 20, 10, 19, 5}, [5]int{8, 20, 10, 19, 5}),
		// Out of order by Grams in one Zone, whatever the days are.
		ratesOf([5]int{2, 21, 10, 19, 5}, [5]int{2, 20, 10, 19, 5}),
		ratesOf([5]int{2, 50, 10, 19, 5}, [5]int{2, 20, 30, 39, 5}),
		ratesOf([5]int{2, 20, 0, 9, 5}, [5]int{2, 50, 0, 9, 5}, [5]int{2, 20, 10, 19, 5}),
		// Out of order by From in one Zone with the same Grams.
		ratesOf([5]int{2, 20, 10, 19, 5}, [5]int{2, 20, 0, 9, 5}),
		ratesOf([5]int{2, 20, 1, 1, 5}, [5]int{2, 20, 0, 0, 5}),
		ratesOf([5]int{2, 20, 10, 19, 5}, [5]int{2, 20, 30, 39, 5}, [5]int{2, 20, 20, 29, 5}),
	}
	for _, r := range badRates() {
		lists = append(lists, []impl.Rate{r}, []impl.Rate{{Zone: 0, Grams: 1, Cents: 1}, r}, []impl.Rate{r, {Zone: 9, Grams: 2000, From: 4000, Until: 4000, Cents: 1}})
	}
	return lists
}

// randomRates makes at most MaxRates rates, of few Zones and Grams, on days near to each other, which often follow without a gap and with the same Cents.
func randomRates(r *rand.Rand) []impl.Rate {
	list := []impl.Rate{}
	first := []int{0, 0, 100, impl.MaxDay - 15}[r.Intn(4)]
	for _, zone := range []int{0, 1, 4, 9} {
		for _, grams := range []int{1, 20, 21, 50, 2000} {
			if r.Intn(2) == 0 {
				continue
			}
			cents := 1 + r.Intn(4)
			for day := first + r.Intn(4); day <= min(first+15, impl.MaxDay) && len(list) < impl.MaxRates && r.Intn(3) > 0; {
				until := min(day+r.Intn(6), impl.MaxDay)
				list = append(list, impl.Rate{Zone: zone, Grams: grams, From: day, Until: until, Cents: cents})
				day = until + []int{1, 1, 1, 1, 2, 3}[r.Intn(6)]
				if r.Intn(2) == 0 {
					cents = 1 + r.Intn(4)
				}
			}
		}
	}
	return list
}

// seasons are, for each day of all, what a letter costs on it, or 0.
type seasons [impl.MaxDay + 1]int

// seasonsOf paints all rates that take a letter onto their days, those with the most Grams first, so that the others cover them.
func seasonsOf(list []impl.Rate, zone, grams int) *seasons {
	var days seasons
	for most := 2000; most >= grams; most-- {
		for _, r := range list {
			if r.Zone == zone && r.Grams == most {
				for day := r.From; day <= r.Until; day++ {
					days[day] = r.Cents
				}
			}
		}
	}
	return &days
}

// spans returns the longest spans of days with the same rate.
func (s *seasons) spans() [][3]int {
	list := [][3]int{}
	for day, cents := range s {
		if cents == 0 || day > 0 && s[day-1] == cents {
			continue
		}
		until := day
		for until < impl.MaxDay && s[until+1] == cents {
			until++
		}
		list = append(list, [3]int{day, until, cents})
	}
	return list
}

// firstWithout returns the first day from one on without a rate, or -1.
func (s *seasons) firstWithout(from int) int {
	for day := from; day <= impl.MaxDay; day++ {
		if s[day] == 0 {
			return day
		}
	}
	return -1
}

// daysAround returns the ends of all days of the rates, the days just outside, and the first and the last one of all.
func daysAround(list []impl.Rate) []int {
	days := []int{0, 1, impl.MaxDay - 1, impl.MaxDay}
	for _, r := range list {
		days = append(days, max(r.From-1, 0), r.From, min(r.From+1, impl.MaxDay), max(r.Until-1, 0), r.Until, min(r.Until+1, impl.MaxDay))
	}
	slices.Sort(days)
	return slices.Compact(days)
}

func TestConstantsOfRates(t *testing.T) {
	if impl.MaxRates != 16 {
		t.Error("limit", impl.MaxRates)
	}
}

func TestIsRate(t *testing.T) {
	for _, r := range append(slices.Clone(exampleRates), goodRate, impl.Rate{Grams: 1, Cents: 1}, impl.Rate{Zone: 9, Grams: 2000, From: 4000, Until: 4000, Cents: 9999},
		impl.Rate{Zone: 0, Grams: 2000, From: 0, Until: 4000, Cents: 1}, impl.Rate{Zone: 9, Grams: 1, From: 10, Until: 10, Cents: 9999}, impl.Rate{Grams: 20, From: 3999, Until: 4000, Cents: 7}) {
		if !impl.IsRate(r) {
			t.Error("a rate", r)
		}
	}
	for _, r := range badRates() {
		if impl.IsRate(r) {
			t.Error("no rate", r)
		}
	}
	for n := -3; n <= 10003; n++ {
		if got := impl.IsRate(impl.Rate{Zone: n, Grams: 20, From: 10, Until: 19, Cents: 5}); got != (n >= 0 && n <= 9) {
			t.Error("zone", n, got)
		}
		if got := impl.IsRate(impl.Rate{Zone: 2, Grams: n, From: 10, Until: 19, Cents: 5}); got != (n >= 1 && n <= 2000) {
			t.Error("grams", n, got)
		}
		if got := impl.IsRate(impl.Rate{Zone: 2, Grams: 20, From: 10, Until: 19, Cents: n}); got != (n >= 1 && n <= 9999) {
			t.Error("cents", n, got)
		}
		if got := impl.IsRate(impl.Rate{Zone: 2, Grams: 20, From: n, Until: 2000, Cents: 5}); got != (n >= 0 && n <= 2000) {
			t.Error("from", n, got)
		}
		if got := impl.IsRate(impl.Rate{Zone: 2, Grams: 20, From: 2000, Until: n, Cents: 5}); got != (n >= 2000 && n <= 4000) {
			t.Error("until", n, got)
		}
	}
}

func TestAreRates(t *testing.T) {
	for _, l := range [][]impl.Rate{
		nil, {}, {goodRate}, exampleRates, ratesWith(impl.MaxRates), ratesWith(impl.MaxRates - 1), {{Grams: 1, Cents: 1}},
		// Days that just touch, and that leave one day between them.
		ratesOf([5]int{2, 20, 10, 19, 5}, [5]int{2, 20, 20, 29, 6}),
		ratesOf([5]int{2, 20, 10, 19, 5}, [5]int{2, 20, 20, 20, 5}, [5]int{2, 20, 21, 21, 5}),
		ratesOf([5]int{2, 20, 10, 19, 5}, [5]int{2, 20, 21, 29, 6}),
		ratesOf([5]int{2, 20, 0, 3999, 5}, [5]int{2, 20, 4000, 4000, 5}),
		// Common days, but not the same Zone or Grams.
		ratesOf([5]int{2, 20, 10, 19, 5}, [5]int{2, 21, 10, 19, 5}, [5]int{3, 20, 10, 19, 5}),
		ratesOf([5]int{2, 20, 10, 19, 5}, [5]int{2, 50, 0, 9, 1}, [5]int{3, 1, 0, 5, 1}),
		ratesOf([5]int{0, 2000, 4000, 4000, 9999}, [5]int{9, 1, 0, 0, 1}),
	} {
		if !impl.AreRates(l) {
			t.Error("rates", l)
		}
	}
	for i, l := range badRateLists() {
		if impl.AreRates(l) {
			t.Error("no rates", i, len(l))
		}
	}
}

func TestTwoRates(t *testing.T) {
	all := []impl.Rate{}
	for _, zone := range []int{0, 1} {
		for _, grams := range []int{1, 2} {
			for from := range 4 {
				for until := from; until < 4; until++ {
					all = append(all, impl.Rate{Zone: zone, Grams: grams, From: from, Until: until, Cents: 1 + from})
				}
			}
		}
	}
	for _, a := range all {
		for _, b := range all {
			want := slices.Compare([]int{a.Zone, a.Grams, a.From}, []int{b.Zone, b.Grams, b.From}) < 0
			if a.Zone == b.Zone && a.Grams == b.Grams {
				for day := a.From; day <= a.Until; day++ {
					want = want && (day < b.From || day > b.Until)
				}
			}
			if got := impl.AreRates([]impl.Rate{a, b}); got != want {
				t.Error("two", a, b, got)
			}
		}
	}
}

func TestRateFor(t *testing.T) {
	gaps := ratesOf([5]int{2, 20, 10, 19, 5}, [5]int{2, 20, 21, 29, 6}, [5]int{2, 50, 15, 25, 8}, [5]int{2, 2000, 20, 20, 9})
	for _, x := range []struct {
		list                    []impl.Rate
		day, zone, grams, cents int
	}{
		{exampleRates, 5, 0, 20, 5}, {exampleRates, 10, 0, 20, 6}, {exampleRates, 9, 0, 20, 5}, {exampleRates, 19, 0, 20, 6}, {exampleRates, 0, 0, 1, 5},
		// Just the Grams, and one gram more.
		{exampleRates, 5, 0, 19, 5}, {exampleRates, 5, 0, 21, 8}, {exampleRates, 5, 0, 50, 8}, {exampleRates, 5, 0, 51, 0},
		{exampleRates, 5, 1, 20, 5}, {exampleRates, 5, 1, 21, 0}, {exampleRates, 20, 9, 100, 4}, {exampleRates, 20, 9, 101, 0}, {exampleRates, 20, 9, 2000, 0},
		// The one with more Grams takes the letter when the other one is not valid.
		{exampleRates, 19, 0, 10, 6}, {exampleRates, 20, 0, 10, 8}, {exampleRates, 29, 0, 1, 8}, {exampleRates, 30, 0, 1, 0},
		// Other zones, and a letter that is never taken.
		{exampleRates, 5, 2, 20, 0}, {exampleRates, 5, 8, 1, 0}, {exampleRates, 5, 9, 20, 0}, {exampleRates, 20, 1, 20, 0},
		// The day before the first one, a day between two and the day behind the last one.
		{gaps, 9, 2, 20, 0}, {gaps, 10, 2, 20, 5}, {gaps, 19, 2, 20, 5}, {gaps, 20, 2, 20, 8}, {gaps, 21, 2, 20, 6}, {gaps, 29, 2, 20, 6}, {gaps, 30, 2, 20, 0},
		{gaps[:2], 20, 2, 20, 0}, {gaps[:2], 20, 2, 1, 0}, {gaps[:2], 15, 2, 21, 0},
		{gaps, 14, 2, 21, 0}, {gaps, 15, 2, 21, 8}, {gaps, 25, 2, 50, 8}, {gaps, 26, 2, 50, 0}, {gaps, 19, 2, 51, 0}, {gaps, 20, 2, 51, 9}, {gaps, 20, 2, 2000, 9}, {gaps, 21, 2, 51, 0},
		// The first and the last day of all, and the greatest numbers.
		{ratesOf([5]int{9, 2000, 0, 4000, 9999}), 0, 9, 2000, 9999}, {ratesOf([5]int{9, 2000, 0, 4000, 9999}), 4000, 9, 1, 9999},
		{ratesOf([5]int{0, 1, 4000, 4000, 1}), 4000, 0, 1, 1}, {ratesOf([5]int{0, 1, 4000, 4000, 1}), 3999, 0, 1, 0}, {ratesOf([5]int{0, 1, 0, 0, 1}), 1, 0, 1, 0},
		{nil, 0, 0, 1, 0}, {[]impl.Rate{}, 4000, 9, 2000, 0},
		{ratesWith(impl.MaxRates), 0, 2, 20, 1}, {ratesWith(impl.MaxRates), 1, 2, 20, 0}, {ratesWith(impl.MaxRates), 30, 2, 20, 16}, {ratesWith(impl.MaxRates), 31, 2, 20, 0},
	} {
		if got, ok := impl.RateFor(x.list, x.day, x.zone, x.grams); ok != (x.cents > 0) || got != x.cents {
			t.Errorf("RateFor(%v, %d, %d, %d) = %d, %v, not %d", x.list, x.day, x.zone, x.grams, got, ok, x.cents)
		}
	}
}

func TestRateSpans(t *testing.T) {
	for _, x := range []struct {
		list        []impl.Rate
		zone, grams int
		want        [][3]int
	}{
		{exampleRates, 0, 10, [][3]int{{0, 9, 5}, {10, 19, 6}, {20, 29, 8}}},
		{exampleRates, 0, 20, [][3]int{{0, 9, 5}, {10, 19, 6}, {20, 29, 8}}},
		{exampleRates, 0, 21, [][3]int{{0, 29, 8}}},
		{exampleRates, 0, 51, nil}, {exampleRates, 5, 1, nil}, {nil, 0, 1, nil}, {[]impl.Rate{}, 9, 2000, nil},
		{exampleRates, 1, 20, [][3]int{{0, 19, 5}}}, {exampleRates, 9, 1, [][3]int{{15, 30, 4}}},
		// The same rate without a gap, from two and three rates, and with a gap of one day.
		{ratesOf([5]int{2, 20, 0, 9, 5}, [5]int{2, 20, 10, 19, 5}), 2, 20, [][3]int{{0, 19, 5}}},
		{ratesOf([5]int{2, 20, 0, 9, 5}, [5]int{2, 20, 10, 10, 5}, [5]int{2, 20, 11, 19, 5}), 2, 20, [][3]int{{0, 19, 5}}},
		{ratesOf([5]int{2, 20, 0, 9, 5}, [5]int{2, 20, 11, 19, 5}), 2, 20, [][3]int{{0, 9, 5}, {11, 19, 5}}},
		{ratesOf([5]int{2, 20, 0, 9, 5}, [5]int{2, 20, 10, 10, 6}, [5]int{2, 20, 11, 19, 5}), 2, 20, [][3]int{{0, 9, 5}, {10, 10, 6}, {11, 19, 5}}},
		// The gap filled by one with more Grams, with other Cents and with the same ones.
		{ratesOf([5]int{2, 20, 0, 9, 5}, [5]int{2, 20, 11, 19, 5}, [5]int{2, 50, 10, 10, 6}), 2, 20, [][3]int{{0, 9, 5}, {10, 10, 6}, {11, 19, 5}}},
		{ratesOf([5]int{2, 20, 0, 9, 5}, [5]int{2, 20, 11, 19, 5}, [5]int{2, 50, 10, 10, 5}), 2, 20, [][3]int{{0, 19, 5}}},
		{ratesOf([5]int{2, 20, 5, 9, 5}, [5]int{2, 50, 0, 20, 5}), 2, 20, [][3]int{{0, 20, 5}}},
		{ratesOf([5]int{2, 20, 5, 9, 5}, [5]int{2, 50, 0, 20, 7}), 2, 20, [][3]int{{0, 4, 7}, {5, 9, 5}, {10, 20, 7}}},
		{ratesOf([5]int{2, 20, 5, 9, 5}, [5]int{2, 50, 0, 20, 7}), 2, 21, [][3]int{{0, 20, 7}}},
		// A later one with more Grams begins within the days of the other one.
		{ratesOf([5]int{2, 20, 0, 9, 5}, [5]int{2, 50, 4, 12, 5}, [5]int{2, 60, 12, 14, 5}), 2, 1, [][3]int{{0, 14, 5}}},
		{ratesOf([5]int{2, 20, 10, 19, 5}, [5]int{2, 50, 0, 9, 5}), 2, 20, [][3]int{{0, 19, 5}}},
		// Other zones and fewer Grams do not count.
		{ratesOf([5]int{1, 20, 10, 10, 5}, [5]int{2, 20, 0, 9, 5}, [5]int{2, 20, 11, 19, 5}, [5]int{3, 20, 10, 10, 5}), 2, 20, [][3]int{{0, 9, 5}, {11, 19, 5}}},
		{ratesOf([5]int{1, 20, 10, 10, 9}, [5]int{2, 19, 12, 13, 9}, [5]int{2, 20, 0, 15, 5}, [5]int{3, 20, 10, 10, 9}), 2, 20, [][3]int{{0, 15, 5}}},
		// The first and the last day of all.
		{ratesOf([5]int{9, 2000, 0, 4000, 9999}), 9, 2000, [][3]int{{0, 4000, 9999}}},
		{ratesOf([5]int{9, 1, 0, 0, 3}, [5]int{9, 1, 4000, 4000, 3}), 9, 1, [][3]int{{0, 0, 3}, {4000, 4000, 3}}},
		{ratesOf([5]int{9, 1, 0, 3999, 3}, [5]int{9, 1, 4000, 4000, 3}), 9, 1, [][3]int{{0, 4000, 3}}},
		{ratesOf([5]int{9, 1, 0, 3999, 3}, [5]int{9, 1, 4000, 4000, 4}), 9, 1, [][3]int{{0, 3999, 3}, {4000, 4000, 4}}},
	} {
		if got, ok := impl.RateSpans(x.list, x.zone, x.grams); !ok || !slices.Equal(got, x.want) {
			t.Errorf("RateSpans(%v, %d, %d) = %v, %v, not %v", x.list, x.zone, x.grams, got, ok, x.want)
		}
	}
	full := [][3]int{}
	for i := range impl.MaxRates {
		full = append(full, [3]int{2 * i, 2 * i, 1 + i})
	}
	if got, ok := impl.RateSpans(ratesWith(impl.MaxRates), 2, 20); !ok || !slices.Equal(got, full) {
		t.Error("as many as can be", got, ok)
	}
}

// checkSpans holds each day of the told spans, and the days before and behind, against RateFor.
func checkSpans(t *testing.T, list []impl.Rate, zone, grams int) {
	t.Helper()
	spans, ok := impl.RateSpans(list, zone, grams)
	if !ok {
		t.Fatal("spans", list, zone, grams)
	}
	taken := 0
	for i, s := range spans {
		if s[0] > s[1] || i > 0 && s[0] <= spans[i-1][1] {
			t.Fatal("no spans in order", list, zone, grams, spans)
		}
		for day := s[0]; day <= s[1]; day++ {
			if cents, ok := impl.RateFor(list, day, zone, grams); !ok || cents != s[2] {
				t.Fatal("within", list, zone, grams, spans, day, cents, ok)
			}
			taken++
		}
		for _, day := range []int{s[0] - 1, s[1] + 1} {
			if cents, ok := impl.RateFor(list, day, zone, grams); ok && cents == s[2] {
				t.Fatal("outside", list, zone, grams, spans, day)
			}
		}
	}
	for day := range impl.MaxDay + 1 {
		if _, ok := impl.RateFor(list, day, zone, grams); ok {
			taken--
		}
	}
	if taken != 0 {
		t.Fatal("days that are in no span", list, zone, grams, spans)
	}
}

func TestPromise8SpansHaveTheirRate(t *testing.T) {
	r := rand.New(rand.NewSource(8))
	for range 60 {
		list := randomRates(r)
		for _, zone := range []int{0, 4, 5, 9} {
			for _, grams := range []int{1, 2, 20, 22, 51, 2000} {
				checkSpans(t, list, zone, grams)
			}
		}
	}
	for _, zone := range []int{0, 1, 9} {
		for _, grams := range []int{1, 20, 21, 50, 51, 100, 101} {
			checkSpans(t, exampleRates, zone, grams)
		}
	}
	checkSpans(t, ratesOf([5]int{9, 1, 0, 3999, 3}, [5]int{9, 1, 4000, 4000, 3}), 9, 1)
	checkSpans(t, ratesOf([5]int{9, 1, 0, 0, 3}, [5]int{9, 1, 4000, 4000, 3}), 9, 1)
	checkSpans(t, ratesWith(impl.MaxRates), 2, 20)
}

func TestFirstWithout(t *testing.T) {
	gap := ratesOf([5]int{2, 20, 0, 9, 5}, [5]int{2, 20, 11, 19, 5}, [5]int{2, 50, 5, 9, 8}, [5]int{2, 60, 15, 4000, 9})
	filled := ratesOf([5]int{2, 20, 0, 9, 5}, [5]int{2, 20, 11, 4000, 5}, [5]int{2, 50, 10, 10, 8})
	for _, x := range []struct {
		list                   []impl.Rate
		zone, grams, from, day int
	}{
		{exampleRates, 0, 10, 0, 30}, {exampleRates, 0, 10, 9, 30}, {exampleRates, 0, 10, 29, 30}, {exampleRates, 0, 10, 30, 30}, {exampleRates, 0, 10, 31, 31},
		{exampleRates, 0, 51, 0, 0}, {exampleRates, 0, 51, 4000, 4000}, {exampleRates, 1, 20, 0, 20}, {exampleRates, 1, 20, 19, 20}, {exampleRates, 1, 21, 7, 7},
		{exampleRates, 9, 100, 0, 0}, {exampleRates, 9, 100, 14, 14}, {exampleRates, 9, 100, 15, 31}, {exampleRates, 9, 100, 30, 31}, {exampleRates, 9, 100, 31, 31},
		{exampleRates, 5, 1, 3, 3}, {nil, 0, 1, 0, 0}, {[]impl.Rate{}, 9, 2000, 4000, 4000},
		// A day between two, which is the first one, is the day itself, or is passed.
		{gap, 2, 20, 0, 10}, {gap, 2, 20, 9, 10}, {gap, 2, 20, 10, 10}, {gap, 2, 21, 0, 0}, {gap, 2, 21, 5, 10}, {gap, 2, 51, 14, 14},
		// A rate on all days from a day on.
		{gap, 2, 20, 11, -1}, {gap, 2, 20, 20, -1}, {gap, 2, 20, 4000, -1}, {gap, 2, 60, 15, -1}, {gap, 2, 61, 15, 15},
		{filled, 2, 20, 0, -1}, {filled, 2, 20, 10, -1}, {filled, 2, 20, 4000, -1}, {filled, 2, 21, 0, 0}, {filled, 2, 21, 10, 11}, {filled, 2, 21, 4000, 4000},
		{ratesOf([5]int{9, 2000, 0, 4000, 1}), 9, 2000, 0, -1}, {ratesOf([5]int{9, 2000, 0, 3999, 1}), 9, 2000, 0, 4000}, {ratesOf([5]int{9, 2000, 1, 4000, 1}), 9, 2000, 0, 0},
		{ratesOf([5]int{9, 2000, 4000, 4000, 1}), 9, 1, 4000, -1}, {ratesOf([5]int{9, 2000, 4000, 4000, 1}), 9, 1, 3999, 3999},
		// Several rates that follow each other, with other Cents, too.
		{ratesOf([5]int{2, 20, 0, 9, 5}, [5]int{2, 20, 10, 19, 6}, [5]int{2, 20, 20, 29, 6}), 2, 20, 0, 30},
		{ratesOf([5]int{2, 20, 10, 19, 5}, [5]int{2, 50, 0, 9, 6}, [5]int{2, 60, 20, 29, 6}), 2, 20, 0, 30},
		{ratesWith(impl.MaxRates), 2, 20, 0, 1}, {ratesWith(impl.MaxRates), 2, 20, 2, 3}, {ratesWith(impl.MaxRates), 2, 20, 30, 31},
	} {
		got, ok := impl.FirstWithout(x.list, x.zone, x.grams, x.from)
		if ok != (x.day >= 0) || got != max(x.day, 0) {
			t.Errorf("FirstWithout(%v, %d, %d, %d) = %d, %v, not %d", x.list, x.zone, x.grams, x.from, got, ok, x.day)
		}
	}
}

func TestHeaviestFor(t *testing.T) {
	cheap := ratesOf([5]int{2, 20, 0, 9, 5}, [5]int{2, 50, 0, 9, 8}, [5]int{2, 60, 0, 9, 4}, [5]int{2, 70, 0, 9, 9}, [5]int{3, 2000, 0, 9, 1})
	for _, x := range []struct {
		list                    []impl.Rate
		day, zone, cents, grams int
	}{
		{exampleRates, 5, 0, 4, 0}, {exampleRates, 5, 0, 5, 20}, {exampleRates, 5, 0, 7, 20}, {exampleRates, 5, 0, 8, 50}, {exampleRates, 5, 0, 9999, 50}, {exampleRates, 5, 0, 1, 0},
		{exampleRates, 10, 0, 5, 0}, {exampleRates, 10, 0, 6, 20}, {exampleRates, 9, 0, 5, 20}, {exampleRates, 20, 0, 7, 0}, {exampleRates, 20, 0, 8, 50}, {exampleRates, 30, 0, 9999, 0},
		{exampleRates, 14, 9, 4, 0}, {exampleRates, 15, 9, 4, 100}, {exampleRates, 30, 9, 4, 100}, {exampleRates, 31, 9, 4, 0}, {exampleRates, 15, 9, 3, 0},
		{exampleRates, 5, 2, 9999, 0}, {nil, 0, 0, 9999, 0}, {[]impl.Rate{}, 4000, 9, 1, 0},
		// A heavier letter costs less than a lighter one.
		{cheap, 0, 2, 3, 0}, {cheap, 0, 2, 4, 60}, {cheap, 0, 2, 5, 60}, {cheap, 9, 2, 8, 60}, {cheap, 9, 2, 9, 70}, {cheap, 9, 3, 1, 2000},
		{ratesOf([5]int{9, 2000, 4000, 4000, 9999}), 4000, 9, 9999, 2000}, {ratesOf([5]int{9, 2000, 4000, 4000, 9999}), 4000, 9, 9998, 0},
		{ratesOf([5]int{0, 1, 0, 0, 1}), 0, 0, 1, 1}, {ratesWith(impl.MaxRates), 30, 2, 16, 20}, {ratesWith(impl.MaxRates), 30, 2, 15, 0},
	} {
		if got, ok := impl.HeaviestFor(x.list, x.day, x.zone, x.cents); ok != (x.grams > 0) || got != x.grams {
			t.Errorf("HeaviestFor(%v, %d, %d, %d) = %d, %v, not %d", x.list, x.day, x.zone, x.cents, got, ok, x.grams)
		}
	}
}

func TestCheapestZones(t *testing.T) {
	all := []impl.Rate{}
	for zone := range 10 {
		all = append(all, impl.Rate{Zone: zone, Grams: 2000, Until: 4000, Cents: 9999})
	}
	falling := []impl.Rate{}
	for zone := range 10 {
		falling = append(falling, impl.Rate{Zone: zone, Grams: 2000, Until: 4000, Cents: 20 - zone})
	}
	mixed := ratesOf([5]int{0, 20, 0, 9, 7}, [5]int{1, 20, 0, 9, 5}, [5]int{2, 20, 0, 9, 6}, [5]int{3, 20, 0, 9, 5}, [5]int{4, 20, 0, 8, 4}, [5]int{5, 20, 0, 9, 4}, [5]int{7, 20, 1, 9, 4}, [5]int{9, 50, 1, 9, 4})
	for _, x := range []struct {
		list       []impl.Rate
		day, grams int
		want       []int
	}{
		{exampleRates, 5, 20, []int{0, 1}}, {exampleRates, 9, 20, []int{0, 1}}, {exampleRates, 10, 20, []int{1}}, {exampleRates, 5, 21, []int{0}}, {exampleRates, 15, 21, []int{9}},
		{exampleRates, 15, 20, []int{9}}, {exampleRates, 14, 20, []int{1}}, {exampleRates, 30, 100, []int{9}}, {exampleRates, 31, 1, nil}, {exampleRates, 30, 101, nil}, {exampleRates, 5, 51, nil},
		{nil, 0, 1, nil}, {[]impl.Rate{}, 4000, 2000, nil},
		{all, 0, 1, []int{0, 1, 2, 3, 4, 5, 6, 7, 8, 9}}, {all, 4000, 2000, []int{0, 1, 2, 3, 4, 5, 6, 7, 8, 9}}, {falling, 7, 7, []int{9}},
		{mixed, 0, 20, []int{4, 5}}, {mixed, 1, 20, []int{4, 5, 7, 9}}, {mixed, 9, 20, []int{5, 7, 9}}, {mixed, 9, 21, []int{9}}, {mixed[:4], 0, 20, []int{1, 3}}, {mixed[:3], 0, 20, []int{1}},
		// What a letter to a zone costs is told by the least Grams, not by the least Cents.
		{ratesOf([5]int{0, 20, 0, 9, 9}, [5]int{0, 50, 0, 9, 1}, [5]int{1, 20, 0, 9, 8}), 0, 20, []int{1}},
		{ratesOf([5]int{0, 20, 0, 9, 9}, [5]int{0, 50, 0, 9, 1}, [5]int{1, 50, 0, 9, 8}), 0, 21, []int{0}},
	} {
		if got, ok := impl.CheapestZones(x.list, x.day, x.grams); !ok || !slices.Equal(got, x.want) {
			t.Errorf("CheapestZones(%v, %d, %d) = %v, %v, not %v", x.list, x.day, x.grams, got, ok, x.want)
		}
	}
}

func TestLettersOfRandomRates(t *testing.T) {
	r := rand.New(rand.NewSource(88))
	full := 0
	for range 300 {
		list := randomRates(r)
		if !impl.AreRates(list) {
			t.Fatal("rates", list)
		}
		if len(list) == impl.MaxRates {
			full++
		}
		checkLetters(t, r, list)
	}
	if full == 0 {
		t.Error("no list was full")
	}
	checkLetters(t, r, exampleRates)
	checkLetters(t, r, ratesWith(impl.MaxRates))
	checkLetters(t, r, ratesOf([5]int{9, 1, 0, 3999, 3}, [5]int{9, 1, 4000, 4000, 3}))
}

// checkLetters compares what is told of letters with days on which the rates are painted.
func checkLetters(t *testing.T, r *rand.Rand, list []impl.Rate) {
	t.Helper()
	weights := []int{1, 2, 20, 21, 22, 50, 51, 1999, 2000}
	grams := weights[r.Intn(len(weights))]
	var byZone [10]*seasons
	for zone := range byZone {
		byZone[zone] = seasonsOf(list, zone, grams)
		if spans, ok := impl.RateSpans(list, zone, grams); !ok || !slices.Equal(spans, byZone[zone].spans()) {
			t.Fatalf("RateSpans(%v, %d, %d) = %v, %v", list, zone, grams, spans, ok)
		}
	}
	for _, day := range daysAround(list) {
		least, zones := 0, []int{}
		for zone, s := range byZone {
			if got, ok := impl.RateFor(list, day, zone, grams); got != s[day] || ok != (s[day] > 0) {
				t.Fatalf("RateFor(%v, %d, %d, %d) = %d, %v", list, day, zone, grams, got, ok)
			}
			free := s.firstWithout(day)
			if got, ok := impl.FirstWithout(list, zone, grams, day); got != max(free, 0) || ok != (free >= 0) {
				t.Fatalf("FirstWithout(%v, %d, %d, %d) = %d, %v", list, zone, grams, day, got, ok)
			}
			if s[day] > 0 && (least == 0 || s[day] < least) {
				least = s[day]
			}
		}
		for zone, s := range byZone {
			if s[day] > 0 && s[day] == least {
				zones = append(zones, zone)
			}
		}
		if got, ok := impl.CheapestZones(list, day, grams); !ok || !slices.Equal(got, zones) {
			t.Fatalf("CheapestZones(%v, %d, %d) = %v, %v", list, day, grams, got, ok)
		}
	}
}

func TestHeaviestOfRandomRates(t *testing.T) {
	r := rand.New(rand.NewSource(808))
	found := 0
	for range 60 {
		list := randomRates(r)
		days := daysAround(list)
		for range 6 {
			day, zone, cents := days[r.Intn(len(days))], []int{0, 1, 4, 9, 5}[r.Intn(5)], []int{1, 2, 3, 4, 5, 9999}[r.Intn(6)]
			want := 0
			for grams := 1; grams <= 2000; grams++ {
				if rate, ok := impl.RateFor(list, day, zone, grams); ok && rate <= cents {
					want = grams
				}
			}
			if got, ok := impl.HeaviestFor(list, day, zone, cents); got != want || ok != (want > 0) {
				t.Fatalf("HeaviestFor(%v, %d, %d, %d) = %d, %v, not %d", list, day, zone, cents, got, ok, want)
			}
			if want > 0 {
				found++
			}
		}
	}
	if found < 30 {
		t.Error("few letters were found", found)
	}
}

// checkNotRaised checks that a raise fails.
func checkNotRaised(t *testing.T, list []impl.Rate, zone, grams, day, cents int) {
	t.Helper()
	if got, ok := impl.RaiseRate(list, zone, grams, day, cents); ok || len(got) != 0 {
		t.Error("raised", len(list), zone, grams, day, cents, got, ok)
	}
}

func TestRaiseRate(t *testing.T) {
	list := ratesOf([5]int{1, 20, 10, 19, 5}, [5]int{2, 10, 10, 19, 5}, [5]int{2, 20, 10, 19, 5}, [5]int{2, 20, 21, 29, 6}, [5]int{2, 20, 30, 30, 7}, [5]int{2, 50, 0, 4000, 8}, [5]int{3, 20, 10, 19, 5})
	for _, x := range []struct {
		index, day, cents int
	}{
		// The day behind From, a day in the middle, and Until.
		{2, 11, 6}, {2, 15, 9999}, {2, 18, 1}, {2, 19, 4}, {3, 22, 5}, {3, 29, 9}, {0, 15, 7}, {1, 15, 7}, {6, 15, 7},
		{5, 1, 9}, {5, 2000, 7}, {5, 3999, 9}, {5, 4000, 9},
	} {
		old := list[x.index]
		want := slices.Clone(list)
		want[x.index].Until = x.day - 1
		want = slices.Insert(want, x.index+1, impl.Rate{Zone: old.Zone, Grams: old.Grams, From: x.day, Until: old.Until, Cents: x.cents})
		if got, ok := impl.RaiseRate(list, old.Zone, old.Grams, x.day, x.cents); !ok || !slices.Equal(got, want) {
			t.Error("raised", x, got, ok)
		}
	}
	for _, x := range [][4]int{
		// On From, before it, on a day between two, and behind the last one.
		{2, 20, 10, 6}, {2, 20, 9, 6}, {2, 20, 0, 6}, {2, 20, 20, 6}, {2, 20, 21, 7}, {2, 20, 30, 8}, {2, 20, 31, 6}, {2, 20, 4000, 6}, {2, 50, 0, 9},
		// The same Cents.
		{2, 20, 11, 5}, {2, 20, 19, 5}, {2, 20, 22, 6}, {2, 50, 4000, 8},
		// Not just these Grams, or another Zone.
		{2, 19, 15, 6}, {2, 21, 15, 6}, {2, 49, 15, 6}, {2, 1, 15, 6}, {2, 2000, 15, 6}, {0, 20, 15, 6}, {4, 20, 15, 6}, {9, 20, 15, 6}, {1, 50, 15, 6}, {1, 10, 15, 6},
	} {
		checkNotRaised(t, list, x[0], x[1], x[2], x[3])
	}
	checkNotRaised(t, nil, 2, 20, 15, 6)
}

func TestRaiseOfTwoThatTouch(t *testing.T) {
	list := ratesOf([5]int{2, 20, 10, 19, 5}, [5]int{2, 20, 20, 29, 6})
	// On the day before the From of the later one the other one is valid, so that none is valid on both.
	checkNotRaised(t, list, 2, 20, 20, 7)
	checkNotRaised(t, ratesOf([5]int{2, 20, 10, 10, 5}), 2, 20, 10, 7)
	if got, ok := impl.RaiseRate(list, 2, 20, 19, 6); !ok || !slices.Equal(got, ratesOf([5]int{2, 20, 10, 18, 5}, [5]int{2, 20, 19, 19, 6}, [5]int{2, 20, 20, 29, 6})) {
		t.Error("the last day of the earlier one, to the rate of the later one", got, ok)
	}
	if got, ok := impl.RaiseRate(list, 2, 20, 21, 5); !ok || !slices.Equal(got, ratesOf([5]int{2, 20, 10, 19, 5}, [5]int{2, 20, 20, 20, 6}, [5]int{2, 20, 21, 29, 5})) {
		t.Error("the second day of the later one, to the rate of the earlier one", got, ok)
	}
	if got, ok := impl.RaiseRate(ratesOf([5]int{2, 20, 10, 11, 5}), 2, 20, 11, 7); !ok || !slices.Equal(got, ratesOf([5]int{2, 20, 10, 10, 5}, [5]int{2, 20, 11, 11, 7})) {
		t.Error("a rate of two days", got, ok)
	}
}

func TestRaiseOfAFullList(t *testing.T) {
	list := ratesWith(impl.MaxRates - 1)
	list[len(list)-1].Until = 99
	raised, ok := impl.RaiseRate(list, 2, 20, 50, 9999)
	if !ok || len(raised) != impl.MaxRates || raised[impl.MaxRates-1] != (impl.Rate{Zone: 2, Grams: 20, From: 50, Until: 99, Cents: 9999}) {
		t.Error("the last one that there is room for", raised, ok)
	}
	checkNotRaised(t, raised, 2, 20, 60, 1)
	raised[0].Zone, raised[0].Until = 0, 99
	checkNotRaised(t, raised, 0, 20, 50, 9)
}

func TestRaisesOfRandomRates(t *testing.T) {
	r := rand.New(rand.NewSource(880))
	raises := 0
	for range 600 {
		list := randomRates(r)
		if len(list) == 0 {
			continue
		}
		x := list[r.Intn(len(list))]
		day, cents := min(x.From+r.Intn(8), impl.MaxDay), 1+r.Intn(5)
		want := []impl.Rate{}
		for _, old := range list {
			if old.Zone == x.Zone && old.Grams == x.Grams && old.From <= day-1 && old.Until >= day && old.Cents != cents {
				before := old
				before.Until = day - 1
				old.From, old.Cents = day, cents
				want = append(want, before)
			}
			want = append(want, old)
		}
		isRaised := len(want) > len(list) && len(want) <= impl.MaxRates
		if !isRaised {
			want = nil
		} else {
			raises++
		}
		if got, ok := impl.RaiseRate(list, x.Zone, x.Grams, day, cents); ok != isRaised || !slices.Equal(got, want) {
			t.Fatalf("RaiseRate(%v, %d, %d, %d, %d) = %v, %v", list, x.Zone, x.Grams, day, cents, got, ok)
		} else if ok && !impl.AreRates(got) {
			t.Fatal("the raised ones are no rates", got)
		}
	}
	if raises < 100 {
		t.Error("few raises", raises)
	}
}

func TestStrangeRates(t *testing.T) {
	for _, x := range []struct {
		list []impl.Rate
		want []int
	}{
		{exampleRates, nil}, {nil, nil}, {[]impl.Rate{}, nil}, {[]impl.Rate{goodRate}, nil}, {ratesWith(impl.MaxRates), nil},
		{ratesOf([5]int{2, 20, 0, 9, 5}, [5]int{2, 50, 0, 9, 4}), []int{1}},
		{ratesOf([5]int{2, 20, 0, 9, 5}, [5]int{2, 21, 0, 9, 4}), []int{1}},
		// Just one common day at either end, and just none.
		{ratesOf([5]int{2, 20, 0, 9, 5}, [5]int{2, 50, 9, 19, 4}), []int{1}},
		{ratesOf([5]int{2, 20, 0, 9, 5}, [5]int{2, 50, 10, 19, 4}), nil},
		{ratesOf([5]int{2, 20, 9, 19, 5}, [5]int{2, 50, 0, 9, 4}), []int{1}},
		{ratesOf([5]int{2, 20, 10, 19, 5}, [5]int{2, 50, 0, 9, 4}), nil},
		{ratesOf([5]int{2, 20, 5, 5, 5}, [5]int{2, 50, 0, 9, 4}), []int{1}},
		{ratesOf([5]int{2, 20, 0, 9, 5}, [5]int{2, 50, 5, 5, 4}), []int{1}},
		{ratesOf([5]int{2, 20, 4000, 4000, 2}, [5]int{2, 50, 4000, 4000, 1}), []int{1}},
		{ratesOf([5]int{2, 20, 0, 0, 9999}, [5]int{2, 2000, 0, 0, 9998}), []int{1}},
		// Equal Cents, fewer Cents, and another Zone.
		{ratesOf([5]int{2, 20, 0, 9, 5}, [5]int{2, 50, 0, 9, 5}), nil},
		{ratesOf([5]int{2, 20, 0, 9, 5}, [5]int{2, 50, 0, 9, 6}), nil},
		{ratesOf([5]int{2, 20, 0, 9, 5}, [5]int{3, 50, 0, 9, 4}), nil},
		{ratesOf([5]int{2, 50, 0, 9, 5}, [5]int{3, 20, 0, 9, 4}), nil},
		// Not the same Grams, though they follow each other.
		{ratesOf([5]int{2, 20, 0, 9, 5}, [5]int{2, 20, 10, 19, 4}), nil},
		// Several, each one told once, and each against any of those before it.
		{ratesOf([5]int{2, 20, 0, 9, 5}, [5]int{2, 30, 0, 9, 4}, [5]int{2, 40, 0, 9, 3}, [5]int{2, 50, 0, 9, 9}, [5]int{3, 20, 0, 9, 1}), []int{1, 2}},
		{ratesOf([5]int{2, 20, 0, 9, 5}, [5]int{2, 20, 10, 19, 7}, [5]int{2, 50, 0, 9, 6}, [5]int{2, 50, 10, 19, 6}, [5]int{2, 60, 0, 19, 6}), []int{3, 4}},
		{ratesOf([5]int{2, 20, 0, 9, 9}, [5]int{2, 30, 0, 9, 9}, [5]int{2, 40, 0, 9, 8}), []int{2}},
		{ratesOf([5]int{2, 20, 0, 0, 9}, [5]int{2, 30, 1, 1, 1}, [5]int{2, 40, 0, 1, 5}), []int{2}},
	} {
		if got, ok := impl.StrangeRates(x.list); !ok || !slices.Equal(got, x.want) {
			t.Errorf("StrangeRates(%v) = %v, %v, not %v", x.list, got, ok, x.want)
		}
	}
}

func TestStrangeOfRandomRates(t *testing.T) {
	r := rand.New(rand.NewSource(8080))
	count := 0
	for range 500 {
		list := randomRates(r)
		want := []int{}
		for i, x := range list {
			isStrange := false
			for _, y := range list {
				for day := x.From; day <= x.Until; day++ {
					if y.Zone == x.Zone && y.Grams < x.Grams && y.Cents > x.Cents && day >= y.From && day <= y.Until {
						isStrange = true
					}
				}
			}
			if isStrange {
				want = append(want, i)
			}
		}
		count += len(want)
		if got, ok := impl.StrangeRates(list); !ok || !slices.Equal(got, want) {
			t.Fatalf("StrangeRates(%v) = %v, %v, not %v", list, got, ok, want)
		}
	}
	if count < 100 {
		t.Error("few strange ones", count)
	}
}

func TestRateText(t *testing.T) {
	for _, x := range []struct {
		fields [5]int
		want   string
	}{
		{[5]int{0, 20, 0, 9, 5}, "z0 20g 0..9 5c"}, {[5]int{2, 20, 10, 19, 5}, "z2 20g 10..19 5c"}, {[5]int{9, 2000, 4000, 4000, 9999}, "z9 2000g 4000..4000 9999c"},
		{[5]int{0, 1, 0, 0, 1}, "z0 1g 0..0 1c"}, {[5]int{3, 250, 7, 4000, 120}, "z3 250g 7..4000 120c"}, {[5]int{5, 4, 3, 3, 2}, "z5 4g 3..3 2c"},
	} {
		if got, ok := impl.RateText(ratesOf(x.fields)[0]); !ok || got != x.want {
			t.Error("text", x.fields, got, ok)
		}
	}
	for _, r := range badRates() {
		if got, ok := impl.RateText(r); ok || got != "" {
			t.Error("text of none", r, got, ok)
		}
	}
}

func TestNumbersThatRatesRefuse(t *testing.T) {
	list := ratesOf([5]int{2, 20, 10, 19, 5}, [5]int{2, 50, 0, 4000, 8})
	for _, n := range farDays {
		if got, ok := impl.RateFor(list, n, 2, 20); ok || got != 0 {
			t.Error("RateFor on a day", n, got, ok)
		}
		if got, ok := impl.FirstWithout(list, 3, 20, n); ok || got != 0 {
			t.Error("FirstWithout from a day", n, got, ok)
		}
		if got, ok := impl.FirstWithout(list, 2, 20, n); ok || got != 0 {
			t.Error("FirstWithout from a day", n, got, ok)
		}
		if got, ok := impl.HeaviestFor(list, n, 2, 9); ok || got != 0 {
			t.Error("HeaviestFor on a day", n, got, ok)
		}
		if got, ok := impl.CheapestZones(list, n, 20); ok || len(got) != 0 {
			t.Error("CheapestZones on a day", n, got, ok)
		}
		checkNotRaised(t, list, 2, 20, n, 6)
		checkNotRaised(t, list, 2, 50, n, 6)
	}
	for _, n := range farZones {
		if got, ok := impl.RateFor(list, 15, n, 20); ok || got != 0 {
			t.Error("RateFor to a zone", n, got, ok)
		}
		if got, ok := impl.RateSpans(list, n, 20); ok || len(got) != 0 {
			t.Error("RateSpans to a zone", n, got, ok)
		}
		if got, ok := impl.FirstWithout(list, n, 20, 15); ok || got != 0 {
			t.Error("FirstWithout to a zone", n, got, ok)
		}
		if got, ok := impl.HeaviestFor(list, 15, n, 9); ok || got != 0 {
			t.Error("HeaviestFor to a zone", n, got, ok)
		}
		checkNotRaised(t, list, n, 20, 15, 6)
	}
	for _, n := range farWeights {
		if got, ok := impl.RateFor(list, 15, 2, n); ok || got != 0 {
			t.Error("RateFor with a weight", n, got, ok)
		}
		if got, ok := impl.RateSpans(list, 2, n); ok || len(got) != 0 {
			t.Error("RateSpans with a weight", n, got, ok)
		}
		if got, ok := impl.FirstWithout(list, 2, n, 15); ok || got != 0 {
			t.Error("FirstWithout with a weight", n, got, ok)
		}
		if got, ok := impl.CheapestZones(list, 15, n); ok || len(got) != 0 {
			t.Error("CheapestZones with a weight", n, got, ok)
		}
		checkNotRaised(t, list, 2, n, 15, 6)
	}
	for _, n := range farRates {
		if got, ok := impl.HeaviestFor(list, 15, 2, n); ok || got != 0 {
			t.Error("HeaviestFor for cents", n, got, ok)
		}
		checkNotRaised(t, list, 2, 20, 15, n)
	}
}

func TestListsThatAreNoRates(t *testing.T) {
	for i, list := range badRateLists() {
		if got, ok := impl.RateFor(list, 0, 2, 20); ok || got != 0 {
			t.Error("RateFor", i, got, ok)
		}
		if got, ok := impl.RateFor(list, 15, 2, 20); ok || got != 0 {
			t.Error("RateFor", i, got, ok)
		}
		if got, ok := impl.RateSpans(list, 2, 20); ok || len(got) != 0 {
			t.Error("RateSpans", i, got, ok)
		}
		if got, ok := impl.FirstWithout(list, 2, 20, 15); ok || got != 0 {
			t.Error("FirstWithout", i, got, ok)
		}
		for _, day := range []int{0, 15} {
			if got, ok := impl.HeaviestFor(list, day, 2, 9999); ok || got != 0 {
				t.Error("HeaviestFor", i, got, ok)
			}
		}
		if got, ok := impl.CheapestZones(list, 15, 20); ok || len(got) != 0 {
			t.Error("CheapestZones", i, got, ok)
		}
		if got, ok := impl.StrangeRates(list); ok || len(got) != 0 {
			t.Error("StrangeRates", i, got, ok)
		}
		for _, day := range []int{11, 15} {
			checkNotRaised(t, list, 2, 20, day, 9999)
		}
	}
}

func TestRatesChangeNoArgument(t *testing.T) {
	room := append(slices.Clone(exampleRates), impl.Rate{Zone: 9, Grams: 200, Until: 4000, Cents: 1}, impl.Rate{Zone: -1})
	list := room[:5]
	kept := slices.Clone(room)
	if !impl.AreRates(list) {
		t.Error("rates")
	}
	if got, ok := impl.RateFor(list, 15, 9, 100); !ok || got != 4 {
		t.Error("rate", got, ok)
	}
	if got, ok := impl.RateFor(list, 15, 9, 101); ok || got != 0 {
		t.Error("a rate from behind the list", got, ok)
	}
	if got, ok := impl.RateSpans(list, 9, 20); !ok || !slices.Equal(got, [][3]int{{15, 30, 4}}) {
		t.Error("spans", got, ok)
	}
	if got, ok := impl.FirstWithout(list, 9, 20, 15); !ok || got != 31 {
		t.Error("without", got, ok)
	}
	if got, ok := impl.HeaviestFor(list, 20, 9, 9999); !ok || got != 100 {
		t.Error("heaviest", got, ok)
	}
	if got, ok := impl.CheapestZones(list, 5, 20); !ok || !slices.Equal(got, []int{0, 1}) {
		t.Error("cheapest", got, ok)
	}
	if got, ok := impl.StrangeRates(list); !ok || len(got) != 0 {
		t.Error("strange", got, ok)
	}
	for _, r := range list {
		if got, ok := impl.RaiseRate(list, r.Zone, r.Grams, r.From+1, 99); !ok || len(got) != 6 {
			t.Error("raised", r, got, ok)
		}
		impl.RaiseRate(list, r.Zone, r.Grams, r.From, 99)
		impl.RaiseRate(list, r.Zone, r.Grams, r.From+1, r.Cents)
	}
	impl.AreRates(room)
	impl.RateFor(room, 5, 0, 20)
	impl.RateSpans(room, 0, 20)
	impl.FirstWithout(list, 0, 20, -1)
	impl.HeaviestFor(room, 5, 0, 9)
	impl.CheapestZones(list, 5, 0)
	impl.StrangeRates(room)
	if !slices.Equal(room, kept) {
		t.Error("an argument was changed", room)
	}
}

func TestResultsOfRatesAreNew(t *testing.T) {
	list := slices.Clone(exampleRates)
	raised, _ := impl.RaiseRate(list, 0, 50, 10, 9)
	spans, _ := impl.RateSpans(list, 0, 20)
	zones, _ := impl.CheapestZones(list, 5, 20)
	for i := range raised {
		raised[i] = impl.Rate{Cents: 77}
	}
	for i := range spans {
		spans[i] = [3]int{7, 7, 7}
	}
	for i := range zones {
		zones[i] = 77
	}
	if !slices.Equal(list, exampleRates) {
		t.Error("a changed result changed an argument", list)
	}
	if again, ok := impl.RaiseRate(list, 0, 50, 10, 9); !ok || len(again) != 6 || again[3] != (impl.Rate{Zone: 0, Grams: 50, From: 10, Until: 29, Cents: 9}) {
		t.Error("a changed result changed what follows", again, ok)
	}
	if again, ok := impl.RateSpans(list, 0, 20); !ok || !slices.Equal(again, [][3]int{{0, 9, 5}, {10, 19, 6}, {20, 29, 8}}) {
		t.Error("a changed result changed what follows", again, ok)
	}
	if again, ok := impl.CheapestZones(list, 5, 20); !ok || !slices.Equal(again, []int{0, 1}) {
		t.Error("a changed result changed what follows", again, ok)
	}
}
