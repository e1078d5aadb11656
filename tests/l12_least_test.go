package tests

import (
	"math/rand"
	"slices"
	"testing"

	"loop.example/g01062/impl"
)

// changesBySize are all changes, the smaller ones first.
var changesBySize = []int{0, 1, 2, 4, 8, 3, 5, 6, 9, 10, 12, 7, 11, 13, 14, 15}

// farChanges are none.
var farChanges = append([]int{-16, -15, -8, -2, -1, 16, 17, 31, 32, 64, 255, 256}, farInts...)

// farCosts are none.
var farCosts = append([]int{-1000, -2, -1, 1001, 1002, 9999}, farInts...)

// limitRates are at the greatest of all numbers.
var limitRates = ratesOf([5]int{9, 1999, 3999, 3999, 9997}, [5]int{9, 1999, 4000, 4000, 9998}, [5]int{9, 2000, 3999, 4000, 9999})

// withLetter returns a cover on the way of another one.
func withLetter(x impl.Cover, letter [4]int) impl.Cover {
	x.Day, x.Zone, x.Grams, x.Paid = letter[0], letter[1], letter[2], letter[3]
	return x
}

// letterOf returns what changes can change.
func letterOf(x impl.Cover) [4]int {
	return [4]int{x.Day, x.Zone, x.Grams, x.Paid}
}

// A making is what a change makes of a letter.
type making struct {
	letter [4]int
	change int
	made   [4]int
}

// makings are against exampleRates.
func makings() []making {
	list := []making{
		// Explained, on the least Day but in a Zone that is not the least one, or with all of them least.
		{[4]int{0, 0, 1, 5}, 0, [4]int{0, 0, 1, 5}}, {[4]int{5, 1, 20, 5}, 0, [4]int{5, 1, 20, 5}}, {[4]int{5, 1, 20, 5}, impl.ChangeZone, [4]int{5, 0, 20, 5}}, {[4]int{5, 1, 20, 5}, impl.ChangeGrams, [4]int{5, 1, 1, 5}},
		{[4]int{5, 1, 20, 5}, impl.ChangeDay, [4]int{0, 1, 20, 5}}, {[4]int{5, 1, 20, 5}, impl.ChangePaid, [4]int{5, 1, 20, 5}}, {[4]int{12, 0, 20, 6}, impl.ChangePaid, [4]int{12, 0, 20, 6}}, {[4]int{12, 0, 20, 6}, impl.ChangeDay, [4]int{10, 0, 20, 6}},
		{[4]int{12, 0, 20, 6}, impl.ChangeDay + impl.ChangePaid, [4]int{0, 0, 20, 5}}, {[4]int{30, 9, 100, 4}, impl.ChangeZone, [4]int{30, 9, 100, 4}}, {[4]int{20, 9, 50, 4}, impl.ChangeZone + impl.ChangePaid, [4]int{20, 0, 50, 8}},
		// A rate that begins, or ends, just beside the Day, and just below or above the Grams.
		{[4]int{14, 9, 100, 4}, impl.ChangeDay, [4]int{15, 9, 100, 4}}, {[4]int{31, 9, 100, 4}, impl.ChangeDay, [4]int{15, 9, 100, 4}}, {[4]int{10, 0, 20, 5}, impl.ChangeDay, [4]int{0, 0, 20, 5}}, {[4]int{9, 0, 20, 6}, impl.ChangeDay, [4]int{10, 0, 20, 6}},
		{[4]int{20, 0, 20, 6}, impl.ChangeDay, [4]int{10, 0, 20, 6}}, {[4]int{19, 0, 20, 8}, impl.ChangeDay, [4]int{20, 0, 20, 8}}, {[4]int{5, 0, 21, 5}, impl.ChangeGrams, [4]int{5, 0, 1, 5}}, {[4]int{5, 0, 20, 8}, impl.ChangeGrams, [4]int{5, 0, 21, 8}},
		{[4]int{20, 0, 51, 8}, impl.ChangeGrams, [4]int{20, 0, 1, 8}}, {[4]int{20, 9, 101, 4}, impl.ChangeGrams, [4]int{20, 9, 1, 4}}, {[4]int{20, 0, 51, 4}, impl.ChangeZone, [4]int{20, 9, 51, 4}},
		// The Day before the Zone, the Zone before the Grams, and the Grams before what was Paid.
		{[4]int{12, 1, 20, 6}, impl.ChangeDay + impl.ChangeZone, [4]int{10, 0, 20, 6}}, {[4]int{12, 0, 20, 4}, impl.ChangeDay + impl.ChangeZone, [4]int{15, 9, 20, 4}}, {[4]int{12, 0, 20, 8}, impl.ChangeDay + impl.ChangeGrams, [4]int{0, 0, 21, 8}},
		{[4]int{15, 1, 20, 8}, impl.ChangeZone + impl.ChangeGrams, [4]int{15, 0, 21, 8}}, {[4]int{15, 0, 21, 5}, impl.ChangeZone + impl.ChangeGrams, [4]int{15, 1, 1, 5}}, {[4]int{5, 0, 50, 3}, impl.ChangeGrams + impl.ChangePaid, [4]int{5, 0, 1, 5}},
		{[4]int{19, 5, 100, 9}, impl.ChangeZone + impl.ChangePaid, [4]int{19, 9, 100, 4}}, {[4]int{30, 1, 20, 9}, impl.ChangeZone + impl.ChangePaid, [4]int{30, 9, 20, 4}}, {[4]int{25, 0, 20, 9}, impl.ChangeDay + impl.ChangePaid, [4]int{0, 0, 20, 5}},
	}
	// All changes of letters that are explained, that are not, and that have no rate.
	for _, x := range []struct {
		letter [4]int
		made   map[int][4]int
	}{
		{[4]int{5, 0, 20, 5}, map[int][4]int{0: {5, 0, 20, 5}, 1: {0, 0, 20, 5}, 2: {5, 0, 20, 5}, 3: {0, 0, 20, 5}, 4: {5, 0, 1, 5}, 5: {0, 0, 1, 5}, 6: {5, 0, 1, 5}, 7: {0, 0, 1, 5}, 8: {5, 0, 20, 5}, 9: {0, 0, 20, 5}, 10: {5, 0, 20, 5}, 11: {0, 0, 20, 5}, 12: {5, 0, 1, 5}, 13: {0, 0, 1, 5}, 14: {5, 0, 1, 5}, 15: {0, 0, 1, 5}}},
		{[4]int{12, 0, 20, 8}, map[int][4]int{1: {20, 0, 20, 8}, 3: {20, 0, 20, 8}, 4: {12, 0, 21, 8}, 5: {0, 0, 21, 8}, 6: {12, 0, 21, 8}, 7: {0, 0, 21, 8}, 8: {12, 0, 20, 6}, 9: {0, 0, 20, 5}, 10: {12, 0, 20, 6}, 11: {0, 0, 20, 5}, 12: {12, 0, 1, 6}, 13: {0, 0, 1, 5}, 14: {12, 0, 1, 6}, 15: {0, 0, 1, 5}}},
		{[4]int{5, 5, 20, 5}, map[int][4]int{2: {5, 0, 20, 5}, 3: {0, 0, 20, 5}, 6: {5, 0, 1, 5}, 7: {0, 0, 1, 5}, 10: {5, 0, 20, 5}, 11: {0, 0, 20, 5}, 14: {5, 0, 1, 5}, 15: {0, 0, 1, 5}}},
		{[4]int{40, 5, 101, 4}, map[int][4]int{7: {15, 9, 1, 4}, 15: {0, 0, 1, 5}}},
		{[4]int{40, 5, 101, 7}, map[int][4]int{15: {0, 0, 1, 5}}},
	} {
		for change := range 16 {
			list = append(list, making{x.letter, change, x.made[change]})
		}
	}
	for change := range 16 {
		list = append(list, making{[4]int{0, 0, 1, 5}, change, [4]int{0, 0, 1, 5}})
	}
	return list
}

// explainedLetters returns all letters that are explained, in ascending order, each by the rate with the fewest grams of those that take it.
func explainedLetters(rates []impl.Rate) [][4]int {
	first, last, heaviest := impl.MaxDay, -1, 0
	for _, r := range rates {
		first, last, heaviest = min(first, r.From), max(last, r.Until), max(heaviest, r.Grams)
	}
	letters := [][4]int{}
	for day := first; day <= last; day++ {
		for zone := range 10 {
			for grams := 1; grams <= heaviest; grams++ {
				least, cents := 2001, 0
				for _, r := range rates {
					if r.Zone == zone && r.From <= day && day <= r.Until && grams <= r.Grams && r.Grams < least {
						least, cents = r.Grams, r.Cents
					}
				}
				if cents > 0 {
					letters = append(letters, [4]int{day, zone, grams, cents})
				}
			}
		}
	}
	return letters
}

// changeBetween returns the numbers in which two letters differ, and how many these are.
func changeBetween(a, b [4]int) (change, count int) {
	for i, number := range []int{1, 2, 4, 8} {
		if a[i] != b[i] {
			change += number
			count++
		}
	}
	return change, count
}

// madeBy returns, for each change that makes a cover into one, the first of the explained letters that it makes.
func madeBy(letters [][4]int, x impl.Cover) map[int][4]int {
	made := map[int][4]int{}
	for _, letter := range letters {
		differs, _ := changeBetween(letterOf(x), letter)
		// An earlier letter that differs in the same numbers has been made by the same changes.
		if _, isMade := made[differs]; isMade {
			continue
		}
		for change := range 16 {
			if _, isMade := made[change]; !isMade && differs|change == change {
				made[change] = letter
			}
		}
	}
	return made
}

// nearRates makes at most MaxRates rates on few days, to few zones and with few weights, which all begin where they are told.
func nearRates(r *rand.Rand, day, grams int) []impl.Rate {
	list := []impl.Rate{}
	for zone := r.Intn(3); zone <= 9; zone += 1 + r.Intn(5) {
		for weight := grams + r.Intn(3); weight <= min(grams+7, 2000); weight += 1 + r.Intn(4) {
			for from := day + r.Intn(5); from <= min(day+9, impl.MaxDay) && len(list) < impl.MaxRates && r.Intn(4) > 0; {
				until := min(from+r.Intn(6), impl.MaxDay)
				list = append(list, impl.Rate{Zone: zone, Grams: weight, From: from, Until: until, Cents: 1 + r.Intn(9)})
				from = until + 1 + r.Intn(2)
			}
		}
	}
	return list
}

// randomLetter makes a cover each of whose numbers often is at that of one of the rates, or beside it.
func randomLetter(r *rand.Rand, rates []impl.Rate) impl.Cover {
	x := paidCover(r.Intn(4001), r.Intn(10), 1+r.Intn(2000), 1+r.Intn(12))
	x.Id = 1 + r.Intn(999)
	if len(rates) == 0 {
		return x
	}
	one := func() impl.Rate { return rates[r.Intn(len(rates))] }
	if r.Intn(6) > 0 {
		days := daysAround(rates)
		x.Day = days[r.Intn(len(days))]
	}
	if r.Intn(6) > 0 {
		x.Zone = one().Zone
	}
	if r.Intn(6) > 0 {
		x.Grams = min(max(one().Grams-1+r.Intn(3), 1), 2000)
	}
	if r.Intn(4) > 0 {
		x.Paid = one().Cents
	}
	return x
}

// randomCosts makes four costs, which often are equal, 0 or 1000.
func randomCosts(r *rand.Rand) [4]int {
	costs := [4]int{}
	for i := range costs {
		costs[i] = []int{0, 1, 2, 3, 999, 1000, r.Intn(1001), r.Intn(1001)}[r.Intn(8)]
	}
	return costs
}

// costBy adds the costs of the numbers of a change.
func costBy(change int, costs [4]int) int {
	sum := 0
	for _, cost := range costs {
		sum += change % 2 * cost
		change /= 2
	}
	return sum
}

func TestConstantsOfChanges(t *testing.T) {
	if impl.ChangeDay != 1 || impl.ChangeZone != 2 || impl.ChangeGrams != 4 || impl.ChangePaid != 8 {
		t.Error("numbers", impl.ChangeDay, impl.ChangeZone, impl.ChangeGrams, impl.ChangePaid)
	}
}

func TestIsExplained(t *testing.T) {
	for _, x := range []struct {
		letter [4]int
		want   bool
	}{
		{[4]int{5, 0, 20, 5}, true}, {[4]int{5, 0, 20, 4}, false}, {[4]int{5, 0, 20, 6}, false}, {[4]int{5, 0, 20, 10}, false}, {[4]int{5, 0, 20, 8}, false},
		{[4]int{0, 0, 1, 5}, true}, {[4]int{9, 0, 20, 5}, true}, {[4]int{10, 0, 20, 5}, false}, {[4]int{10, 0, 20, 6}, true}, {[4]int{9, 0, 20, 6}, false}, {[4]int{19, 0, 20, 6}, true}, {[4]int{20, 0, 20, 6}, false}, {[4]int{20, 0, 20, 8}, true}, {[4]int{29, 0, 20, 8}, true},
		{[4]int{5, 0, 21, 8}, true}, {[4]int{5, 0, 21, 5}, false}, {[4]int{5, 0, 50, 8}, true}, {[4]int{14, 9, 100, 4}, false}, {[4]int{15, 9, 100, 4}, true}, {[4]int{30, 9, 1, 4}, true}, {[4]int{31, 9, 1, 4}, false},
		// Without a rate on the day, to the zone and with the weight, whatever was paid.
		{[4]int{30, 0, 20, 8}, false}, {[4]int{4000, 0, 20, 1}, false}, {[4]int{5, 5, 20, 5}, false}, {[4]int{5, 0, 51, 8}, false}, {[4]int{5, 0, 51, 9999}, false}, {[4]int{20, 9, 101, 4}, false}, {[4]int{5, 9, 20, 4}, false},
	} {
		if got, ok := impl.IsExplained(exampleRates, withLetter(goodCover, x.letter)); !ok || got != x.want {
			t.Errorf("IsExplained(%v) = %v, %v, not %v", x.letter, got, ok, x.want)
		}
	}
	// The way does not count, even if no mail goes on it.
	for _, x := range []impl.Cover{sentCover(3, 0, 0, 0), sentCover(9, 8, 9999, 9999), sentCover(0, 1, 0, 9999)} {
		if got, ok := impl.IsExplained(exampleRates, x); !ok || !got {
			t.Error("another way", x, got, ok)
		}
	}
}

func TestMakeCover(t *testing.T) {
	for _, x := range makings() {
		for _, cover := range []impl.Cover{goodCover, {Id: 1, From: 9, To: 0, Leave: 9999, Arrive: 9999}, {Id: 999, From: 8, To: 9, Leave: 3, Arrive: 4}} {
			cover = withLetter(cover, x.letter)
			want, isMade := withLetter(cover, x.made), x.made != [4]int{}
			if !isMade {
				want = impl.Cover{}
			}
			if got, ok := impl.MakeCover(exampleRates, cover, x.change); ok != isMade || got != want {
				t.Errorf("MakeCover(%v, %d) = %v, %v, not %v", cover, x.change, got, ok, want)
			}
		}
	}
}

func TestMakeCoverAtTheLimits(t *testing.T) {
	for _, x := range []making{
		{[4]int{4000, 9, 2000, 9999}, 0, [4]int{4000, 9, 2000, 9999}}, {[4]int{0, 0, 1, 1}, 15, [4]int{3999, 9, 1, 9997}}, {[4]int{4000, 9, 5, 9999}, impl.ChangeGrams, [4]int{4000, 9, 2000, 9999}}, {[4]int{3999, 9, 5, 9998}, impl.ChangeDay, [4]int{4000, 9, 5, 9998}},
		{[4]int{0, 9, 1, 9998}, impl.ChangeDay, [4]int{4000, 9, 1, 9998}}, {[4]int{4000, 0, 1999, 9998}, impl.ChangeZone, [4]int{4000, 9, 1999, 9998}}, {[4]int{4000, 8, 2000, 9999}, impl.ChangeZone, [4]int{4000, 9, 2000, 9999}}, {[4]int{4000, 9, 2000, 1}, impl.ChangePaid, [4]int{4000, 9, 2000, 9999}},
		{[4]int{4000, 9, 2000, 9998}, impl.ChangeGrams, [4]int{4000, 9, 1, 9998}}, {[4]int{4000, 9, 1, 9997}, impl.ChangeGrams, [4]int{}}, {[4]int{4000, 9, 2000, 9997}, impl.ChangeDay, [4]int{}}, {[4]int{4000, 9, 2000, 9997}, impl.ChangeDay + impl.ChangeGrams, [4]int{3999, 9, 1, 9997}},
		{[4]int{3998, 9, 2000, 9999}, 0, [4]int{}}, {[4]int{3998, 9, 2000, 9999}, impl.ChangeDay, [4]int{3999, 9, 2000, 9999}}, {[4]int{0, 0, 1, 9999}, 7, [4]int{3999, 9, 2000, 9999}}, {[4]int{0, 0, 1, 9999}, 6, [4]int{}},
	} {
		cover := withLetter(goodCover, x.letter)
		want, isMade := withLetter(cover, x.made), x.made != [4]int{}
		if !isMade {
			want = impl.Cover{}
		}
		if got, ok := impl.MakeCover(limitRates, cover, x.change); ok != isMade || got != want {
			t.Errorf("MakeCover(%v, %d) = %v, %v, not %v", x.letter, x.change, got, ok, want)
		}
	}
}

// ratesForLetters returns a rate for each of some letters, which is for its day and weight alone.
func ratesForLetters(letters ...[4]int) []impl.Rate {
	list := []impl.Rate{}
	for _, x := range letters {
		list = append(list, impl.Rate{Zone: x[1], Grams: x[2], From: x[0], Until: x[0], Cents: x[3]})
	}
	return list
}

func TestLeastOfTwoThatDo(t *testing.T) {
	for _, x := range []struct {
		rates  []impl.Rate
		letter [4]int
		change int
		made   [4]int
	}{
		// Two Days, also if the one of them is nearer, and if it is the one of the cover.
		{ratesForLetters([4]int{3, 2, 10, 5}, [4]int{8, 2, 10, 5}), [4]int{9, 2, 10, 5}, 1, [4]int{3, 2, 10, 5}}, {ratesForLetters([4]int{3, 2, 10, 5}, [4]int{8, 2, 10, 5}), [4]int{8, 2, 10, 5}, 1, [4]int{3, 2, 10, 5}}, {ratesForLetters([4]int{3, 2, 11, 5}, [4]int{2, 2, 12, 5}), [4]int{9, 2, 10, 5}, 1, [4]int{2, 2, 10, 5}},
		// Two Zones.
		{ratesForLetters([4]int{3, 2, 10, 5}, [4]int{3, 7, 10, 5}), [4]int{3, 8, 10, 5}, 2, [4]int{3, 2, 10, 5}}, {ratesForLetters([4]int{3, 2, 10, 5}, [4]int{3, 7, 10, 5}), [4]int{3, 7, 10, 5}, 2, [4]int{3, 2, 10, 5}}, {ratesForLetters([4]int{3, 2, 10, 6}, [4]int{3, 7, 10, 5}, [4]int{3, 9, 10, 5}), [4]int{3, 9, 10, 5}, 2, [4]int{3, 7, 10, 5}},
		// Two weights, with another rate between them or with none.
		{ratesForLetters([4]int{3, 2, 10, 6}, [4]int{3, 2, 20, 5}, [4]int{3, 2, 30, 6}, [4]int{3, 2, 40, 5}), [4]int{3, 2, 35, 5}, 4, [4]int{3, 2, 11, 5}}, {ratesForLetters([4]int{3, 2, 10, 6}, [4]int{3, 2, 20, 5}, [4]int{3, 2, 30, 5}), [4]int{3, 2, 10, 5}, 4, [4]int{3, 2, 11, 5}}, {ratesForLetters([4]int{3, 2, 10, 6}, [4]int{3, 2, 11, 5}), [4]int{3, 2, 99, 5}, 4, [4]int{3, 2, 11, 5}},
		// Two rates.
		{ratesForLetters([4]int{3, 2, 10, 9}, [4]int{3, 2, 20, 5}), [4]int{3, 2, 10, 5}, 8, [4]int{3, 2, 10, 9}}, {ratesForLetters([4]int{3, 2, 10, 9}, [4]int{3, 2, 20, 5}), [4]int{3, 2, 20, 5}, 12, [4]int{3, 2, 1, 9}},
		// The Day before the Zone, the Grams and what was Paid.
		{ratesForLetters([4]int{4, 2, 10, 5}, [4]int{3, 7, 10, 5}), [4]int{9, 9, 10, 5}, 3, [4]int{3, 7, 10, 5}}, {ratesForLetters([4]int{4, 2, 10, 5}, [4]int{3, 2, 20, 6}, [4]int{4, 2, 30, 5}, [4]int{3, 2, 40, 5}), [4]int{9, 2, 10, 5}, 5, [4]int{3, 2, 21, 5}}, {ratesForLetters([4]int{4, 2, 10, 5}, [4]int{3, 2, 20, 6}), [4]int{9, 2, 10, 5}, 9, [4]int{3, 2, 10, 6}},
		// The Zone before the Grams and what was Paid.
		{ratesForLetters([4]int{3, 2, 10, 6}, [4]int{3, 2, 20, 5}, [4]int{3, 7, 10, 5}), [4]int{3, 9, 10, 5}, 6, [4]int{3, 2, 11, 5}}, {ratesForLetters([4]int{3, 2, 10, 6}, [4]int{3, 7, 10, 5}), [4]int{3, 9, 10, 4}, 10, [4]int{3, 2, 10, 6}}, {ratesForLetters([4]int{3, 2, 10, 6}, [4]int{3, 7, 10, 5}), [4]int{3, 7, 10, 5}, 14, [4]int{3, 2, 1, 6}},
		// A Day on which a lighter rate has ended.
		{ratesOf([5]int{2, 10, 0, 8, 6}, [5]int{2, 20, 0, 19, 5}), [4]int{3, 2, 10, 5}, 1, [4]int{9, 2, 10, 5}}, {ratesOf([5]int{2, 10, 0, 19, 6}, [5]int{2, 20, 0, 19, 5}), [4]int{3, 2, 10, 5}, 1, [4]int{}},
	} {
		cover := withLetter(goodCover, x.letter)
		slices.SortFunc(x.rates, func(a, b impl.Rate) int {
			return slices.Compare([]int{a.Zone, a.Grams, a.From}, []int{b.Zone, b.Grams, b.From})
		})
		want, isMade := withLetter(cover, x.made), x.made != [4]int{}
		if !isMade {
			want = impl.Cover{}
		}
		if got, ok := impl.MakeCover(x.rates, cover, x.change); ok != isMade || got != want {
			t.Errorf("MakeCover(%v, %v, %d) = %v, %v, not %v", x.rates, x.letter, x.change, got, ok, want)
		}
	}
}

// changesWith returns all changes with each of some numbers.
func changesWith(numbers int) []int {
	changes := []int{}
	for change := range 16 {
		if change|numbers == change {
			changes = append(changes, change)
		}
	}
	return changes
}

func TestChangesOfCovers(t *testing.T) {
	for _, x := range []struct {
		letter   [4]int
		possible []int
		least    int
		made     [4]int
		needed   int
	}{
		// Explained already.
		{[4]int{5, 0, 20, 5}, changesWith(0), 0, [4]int{5, 0, 20, 5}, 0}, {[4]int{12, 0, 20, 6}, changesWith(0), 0, [4]int{12, 0, 20, 6}, 0}, {[4]int{30, 9, 100, 4}, changesWith(0), 0, [4]int{30, 9, 100, 4}, 0}, {[4]int{0, 0, 1, 5}, changesWith(0), 0, [4]int{0, 0, 1, 5}, 0},
		// Two changes with as many numbers, and one with fewer numbers that is greater.
		{[4]int{12, 0, 20, 5}, []int{1, 2, 3, 5, 6, 7, 8, 9, 10, 11, 12, 13, 14, 15}, 1, [4]int{0, 0, 20, 5}, 0}, {[4]int{12, 0, 20, 8}, []int{1, 3, 4, 5, 6, 7, 8, 9, 10, 11, 12, 13, 14, 15}, 1, [4]int{20, 0, 20, 8}, 0},
		{[4]int{5, 1, 20, 4}, []int{3, 7, 8, 9, 10, 11, 12, 13, 14, 15}, 8, [4]int{5, 1, 20, 5}, 0}, {[4]int{5, 0, 101, 4}, []int{7, 12, 13, 14, 15}, 12, [4]int{5, 0, 1, 5}, 4}, {[4]int{40, 0, 50, 6}, []int{5, 7, 9, 11, 13, 15}, 5, [4]int{10, 0, 1, 6}, 1}, {[4]int{40, 9, 20, 6}, []int{3, 7, 9, 11, 13, 15}, 3, [4]int{10, 0, 20, 6}, 1},
		{[4]int{25, 0, 50, 5}, []int{5, 7, 8, 9, 10, 11, 12, 13, 14, 15}, 8, [4]int{25, 0, 50, 8}, 0},
		// A Day, a Zone on its Day, and a weight without a rate.
		{[4]int{40, 0, 20, 5}, changesWith(1), 1, [4]int{0, 0, 20, 5}, 1}, {[4]int{5, 5, 20, 5}, changesWith(2), 2, [4]int{5, 0, 20, 5}, 2}, {[4]int{5, 9, 20, 8}, []int{3, 6, 7, 9, 10, 11, 13, 14, 15}, 3, [4]int{20, 0, 20, 8}, 0}, {[4]int{5, 0, 101, 5}, changesWith(4), 4, [4]int{5, 0, 1, 5}, 4},
		{[4]int{40, 0, 2000, 9999}, []int{13, 15}, 13, [4]int{0, 0, 1, 5}, 13}, {[4]int{40, 5, 20, 5}, []int{3, 7, 11, 15}, 3, [4]int{0, 0, 20, 5}, 3}, {[4]int{5, 5, 101, 5}, []int{6, 7, 14, 15}, 6, [4]int{5, 0, 1, 5}, 6}, {[4]int{40, 5, 101, 4}, []int{7, 15}, 7, [4]int{15, 9, 1, 4}, 7},
		// Paid what no rate is.
		{[4]int{5, 0, 20, 7}, changesWith(8), 8, [4]int{5, 0, 20, 5}, 8}, {[4]int{40, 0, 20, 7}, changesWith(9), 9, [4]int{0, 0, 20, 5}, 9}, {[4]int{5, 5, 20, 7}, changesWith(10), 10, [4]int{5, 0, 20, 5}, 10}, {[4]int{5, 0, 101, 7}, changesWith(12), 12, [4]int{5, 0, 1, 5}, 12}, {[4]int{40, 5, 101, 7}, changesWith(15), 15, [4]int{0, 0, 1, 5}, 15},
	} {
		cover := withLetter(goodCover, x.letter)
		if got, ok := impl.PossibleChanges(exampleRates, cover); !ok || !slices.Equal(got, x.possible) {
			t.Errorf("PossibleChanges(%v) = %v, %v, not %v", x.letter, got, ok, x.possible)
		}
		if got, made, ok := impl.LeastChange(exampleRates, cover); !ok || got != x.least || made != withLetter(cover, x.made) {
			t.Errorf("LeastChange(%v) = %d, %v, %v, not %d, %v", x.letter, got, made, ok, x.least, x.made)
		}
		if got, ok := impl.NeededChanges(exampleRates, cover); !ok || got != x.needed {
			t.Errorf("NeededChanges(%v) = %d, %v, not %d", x.letter, got, ok, x.needed)
		}
		// The least change is also the cheapest one if each number costs the same, or nothing.
		for _, cost := range []int{0, 1, 7, 1000} {
			sum := costBy(x.least, [4]int{cost, cost, cost, cost})
			if got, told, ok := impl.CheapestChange(exampleRates, cover, [4]int{cost, cost, cost, cost}); !ok || got != x.least || told != sum {
				t.Errorf("CheapestChange(%v, %d) = %d, %d, %v, not %d, %d", x.letter, cost, got, told, ok, x.least, sum)
			}
		}
	}
}

func TestCheapestChange(t *testing.T) {
	for _, x := range []struct {
		letter [4]int
		costs  [4]int
		change int
		sum    int
	}{
		// A sum that is least for a change with more numbers, or for a greater one with as many.
		{[4]int{5, 1, 20, 4}, [4]int{1, 1, 0, 10}, 3, 2}, {[4]int{5, 1, 20, 4}, [4]int{1, 1, 0, 3}, 3, 2}, {[4]int{5, 1, 20, 4}, [4]int{1, 1, 0, 1}, 8, 1}, {[4]int{5, 0, 101, 4}, [4]int{0, 0, 0, 1000}, 7, 0}, {[4]int{5, 0, 101, 4}, [4]int{1, 1, 5, 3}, 7, 7}, {[4]int{5, 0, 101, 4}, [4]int{499, 500, 1000, 1000}, 7, 1999},
		{[4]int{12, 0, 20, 5}, [4]int{5, 4, 0, 3}, 8, 3}, {[4]int{12, 0, 20, 5}, [4]int{5, 2, 0, 3}, 2, 2}, {[4]int{12, 0, 20, 5}, [4]int{1, 2, 0, 3}, 1, 1},
		// Equal sums: fewer numbers, and then the lesser one.
		{[4]int{5, 1, 20, 4}, [4]int{1, 1, 0, 2}, 8, 2}, {[4]int{5, 1, 20, 4}, [4]int{500, 500, 0, 1000}, 8, 1000}, {[4]int{5, 0, 101, 4}, [4]int{1, 1, 5, 2}, 12, 7}, {[4]int{12, 0, 20, 5}, [4]int{3, 2, 9, 2}, 2, 2}, {[4]int{12, 0, 20, 5}, [4]int{2, 3, 9, 2}, 1, 2}, {[4]int{12, 0, 20, 5}, [4]int{1, 0, 0, 0}, 2, 0}, {[4]int{12, 0, 20, 5}, [4]int{0, 0, 0, 0}, 1, 0}, {[4]int{12, 0, 20, 5}, [4]int{1, 1, 0, 0}, 8, 0},
		// Costs of 0 and of 1000 for a needed number, and for all.
		{[4]int{40, 5, 101, 7}, [4]int{1000, 1000, 1000, 1000}, 15, 4000}, {[4]int{40, 5, 101, 7}, [4]int{1, 20, 300, 0}, 15, 321}, {[4]int{40, 0, 20, 5}, [4]int{1000, 0, 0, 0}, 1, 1000}, {[4]int{5, 0, 20, 7}, [4]int{0, 0, 0, 1000}, 8, 1000}, {[4]int{5, 5, 20, 5}, [4]int{0, 1000, 0, 0}, 2, 1000}, {[4]int{5, 0, 101, 5}, [4]int{0, 0, 1000, 0}, 4, 1000},
		// Nothing is cheaper than to change nothing.
		{[4]int{5, 0, 20, 5}, [4]int{0, 0, 0, 0}, 0, 0}, {[4]int{5, 0, 20, 5}, [4]int{0, 1000, 1, 0}, 0, 0}, {[4]int{30, 9, 100, 4}, [4]int{1000, 1000, 1000, 1000}, 0, 0},
	} {
		if got, sum, ok := impl.CheapestChange(exampleRates, withLetter(goodCover, x.letter), x.costs); !ok || got != x.change || sum != x.sum {
			t.Errorf("CheapestChange(%v, %v) = %d, %d, %v, not %d, %d", x.letter, x.costs, got, sum, ok, x.change, x.sum)
		}
	}
}

func TestChangesWithoutRates(t *testing.T) {
	for _, none := range [][]impl.Rate{nil, {}} {
		for _, x := range []impl.Cover{goodCover, paidCover(0, 0, 1, 1), paidCover(4000, 9, 2000, 9999)} {
			if got, ok := impl.IsExplained(none, x); !ok || got {
				t.Error("explained by nothing", x, got, ok)
			}
			if got, ok := impl.PossibleChanges(none, x); !ok || len(got) != 0 {
				t.Error("possible without rates", x, got, ok)
			}
			for change := range 16 {
				checkNotMade(t, none, x, change)
			}
			checkNoChange(t, none, x, [4]int{0, 1, 2, 3})
		}
	}
}

// checkCoverChanges compares what is told of a cover with all letters that are explained.
func checkCoverChanges(t *testing.T, r *rand.Rand, rates []impl.Rate, letters [][4]int, x impl.Cover) int {
	t.Helper()
	made := madeBy(letters, x)
	possible, needed, least := []int{}, 15, -1
	for change := range 16 {
		letter, isMade := made[change]
		want := impl.Cover{}
		if isMade {
			want = withLetter(x, letter)
			possible = append(possible, change)
			needed &= change
		}
		if got, ok := impl.MakeCover(rates, x, change); ok != isMade || got != want {
			t.Fatalf("MakeCover(%v, %v, %d) = %v, %v, not %v", rates, x, change, got, ok, want)
		}
	}
	costs := randomCosts(r)
	cheapest := -1
	for _, change := range changesBySize {
		if !slices.Contains(possible, change) {
			continue
		}
		if least < 0 {
			least = change
		}
		if cheapest < 0 || costBy(change, costs) < costBy(cheapest, costs) {
			cheapest = change
		}
	}
	if got, ok := impl.PossibleChanges(rates, x); !ok || !slices.Equal(got, possible) {
		t.Fatalf("PossibleChanges(%v, %v) = %v, %v, not %v", rates, x, got, ok, possible)
	}
	_, isThere := made[0]
	if got, ok := impl.IsExplained(rates, x); !ok || got != isThere {
		t.Fatalf("IsExplained(%v, %v) = %v, %v", rates, x, got, ok)
	}
	if least < 0 {
		checkNoChange(t, rates, x, costs)
		return least
	}
	if got, y, ok := impl.LeastChange(rates, x); !ok || got != least || y != withLetter(x, made[least]) {
		t.Fatalf("LeastChange(%v, %v) = %d, %v, %v, not %d, %v", rates, x, got, y, ok, least, made[least])
	}
	if got, sum, ok := impl.CheapestChange(rates, x, costs); !ok || got != cheapest || sum != costBy(cheapest, costs) {
		t.Fatalf("CheapestChange(%v, %v, %v) = %d, %d, %v, not %d", rates, x, costs, got, sum, ok, cheapest)
	}
	if got, ok := impl.NeededChanges(rates, x); !ok || got != needed {
		t.Fatalf("NeededChanges(%v, %v) = %d, %v, not %d", rates, x, got, ok, needed)
	}
	return least
}

func TestChangesOfRandomCovers(t *testing.T) {
	r := rand.New(rand.NewSource(1212))
	seen := map[int]int{}
	for range 250 {
		rates := nearRates(r, []int{0, 100, impl.MaxDay - 8}[r.Intn(3)], []int{1, 1, 1, 1993}[r.Intn(4)])
		if !impl.AreRates(rates) {
			t.Fatal("rates", rates)
		}
		letters := explainedLetters(rates)
		for range 12 {
			seen[checkCoverChanges(t, r, rates, letters, randomLetter(r, rates))]++
		}
	}
	for _, least := range []int{0, 1, 2, 3, 4, 8, 9, 10, 12} {
		if seen[least] < 10 {
			t.Error("few with the least change", least, seen)
		}
	}
}

func TestChangesAgainstRandomRates(t *testing.T) {
	r := rand.New(rand.NewSource(1213))
	for range 40 {
		rates := randomRates(r)
		letters := explainedLetters(rates)
		for range 5 {
			checkCoverChanges(t, r, rates, letters, randomLetter(r, rates))
			checkCoverChanges(t, r, rates, letters, randomCover(r, rates, nil))
		}
	}
}

func TestPromise12NoChangeHasFewerNumbers(t *testing.T) {
	r := rand.New(rand.NewSource(12))
	counts := [5]int{}
	for range 300 {
		rates := nearRates(r, 5, 1)
		letters := explainedLetters(rates)
		for range 10 {
			x := randomLetter(r, rates)
			// Fewer numbers than those in which the nearest explained letter differs make nothing.
			fewest := 5
			for _, letter := range letters {
				_, count := changeBetween(letterOf(x), letter)
				fewest = min(fewest, count)
			}
			change, y, ok := impl.LeastChange(rates, x)
			if ok != (fewest < 5) {
				t.Fatal("a least change", rates, x, change, y, ok, fewest)
			}
			if !ok {
				continue
			}
			differs, count := changeBetween(letterOf(x), letterOf(y))
			if differs != change || count != fewest {
				t.Fatal("not the fewest numbers", rates, x, change, y, fewest)
			}
			counts[count]++
			checkFewerNumbers(t, rates, x, y, change, count)
		}
	}
	if slices.Min(counts[:4]) < 50 || counts[4] == 0 {
		t.Error("few with some count of numbers", counts)
	}
}

// checkFewerNumbers checks that a change makes a cover that is explained, and no change with fewer numbers any.
func checkFewerNumbers(t *testing.T, rates []impl.Rate, x, y impl.Cover, change, count int) {
	t.Helper()
	if got, ok := impl.IsExplained(rates, y); !ok || !got || !impl.IsCover(y) {
		t.Fatal("the made cover is not explained", rates, x, y)
	}
	if got, ok := impl.ChangeOf(x, y); !ok || got != change {
		t.Fatal("the change of the made cover", rates, x, y, got, ok, change)
	}
	if cents, ok := impl.RateFor(rates, y.Day, y.Zone, y.Grams); !ok || cents != y.Paid {
		t.Fatal("the made cover is not paid", rates, x, y, cents, ok)
	}
	for other := range 16 {
		_, numbers := changeBetween([4]int{}, [4]int{other & 1, other & 2, other & 4, other & 8})
		if numbers < count || numbers == count && other < change {
			checkNotMade(t, rates, x, other)
		}
	}
}

func TestChangeOf(t *testing.T) {
	other := [4]int{6, 1, 21, 6}
	for change := range 16 {
		letter := letterOf(goodCover)
		for i := range 4 {
			if change>>i%2 == 1 {
				letter[i] = other[i]
			}
		}
		y := withLetter(goodCover, letter)
		for _, pair := range [][2]impl.Cover{{goodCover, y}, {y, goodCover}} {
			if got, ok := impl.ChangeOf(pair[0], pair[1]); !ok || got != change {
				t.Errorf("ChangeOf(%v) = %d, %v, not %d", pair, got, ok, change)
			}
		}
		// Anything else that differs beside it.
		for i := range 5 {
			z := y
			*[]*int{&z.Id, &z.From, &z.To, &z.Leave, &z.Arrive}[i] += 1
			if !impl.IsCover(z) {
				t.Fatal("a cover", z)
			}
			checkNoChangeOf(t, goodCover, z)
			checkNoChangeOf(t, z, goodCover)
		}
		// A time alone, and both offices exchanged.
		for _, z := range []impl.Cover{sentCover(3, 0, 0, 25), sentCover(0, 3, 25, 25), sentCover(0, 3, 0, 0), sentCover(0, 3, 0, 9999)} {
			checkNoChangeOf(t, withLetter(z, letter), goodCover)
			checkNoChangeOf(t, goodCover, withLetter(z, letter))
		}
	}
	for _, x := range []struct {
		a, b   [4]int
		change int
	}{
		{[4]int{0, 0, 1, 1}, [4]int{4000, 9, 2000, 9999}, 15}, {[4]int{4000, 9, 2000, 9999}, [4]int{4000, 9, 2000, 9999}, 0}, {[4]int{0, 0, 1, 1}, [4]int{0, 0, 1, 9999}, 8}, {[4]int{1, 1, 1, 1}, [4]int{1, 2, 2, 1}, 6}, {[4]int{1, 2, 3, 4}, [4]int{2, 1, 3, 4}, 3},
	} {
		if got, ok := impl.ChangeOf(withLetter(goodCover, x.a), withLetter(goodCover, x.b)); !ok || got != x.change {
			t.Errorf("ChangeOf(%v, %v) = %d, %v, not %d", x.a, x.b, got, ok, x.change)
		}
	}
}

func TestChangeText(t *testing.T) {
	for change, want := range []string{
		"none", "day", "zone", "day+zone", "grams", "day+grams", "zone+grams", "day+zone+grams",
		"paid", "day+paid", "zone+paid", "day+zone+paid", "grams+paid", "day+grams+paid", "zone+grams+paid", "day+zone+grams+paid",
	} {
		if got, ok := impl.ChangeText(change); !ok || got != want {
			t.Errorf("ChangeText(%d) = %q, %v, not %q", change, got, ok, want)
		}
	}
	for _, n := range farChanges {
		if got, ok := impl.ChangeText(n); ok || got != "" {
			t.Errorf("ChangeText(%d) = %q, %v", n, got, ok)
		}
	}
}

// checkNotMade checks that a change makes no cover.
func checkNotMade(t *testing.T, rates []impl.Rate, x impl.Cover, change int) {
	t.Helper()
	if got, ok := impl.MakeCover(rates, x, change); ok || got != (impl.Cover{}) {
		t.Error("MakeCover", len(rates), x, change, got, ok)
	}
}

// checkNotCheap checks that no cheapest change is told.
func checkNotCheap(t *testing.T, rates []impl.Rate, x impl.Cover, costs [4]int) {
	t.Helper()
	if got, sum, ok := impl.CheapestChange(rates, x, costs); ok || got != 0 || sum != 0 {
		t.Error("CheapestChange", len(rates), x, costs, got, sum, ok)
	}
}

// checkNoChange checks that no change of a cover is told.
func checkNoChange(t *testing.T, rates []impl.Rate, x impl.Cover, costs [4]int) {
	t.Helper()
	if got, y, ok := impl.LeastChange(rates, x); ok || got != 0 || y != (impl.Cover{}) {
		t.Error("LeastChange", len(rates), x, got, y, ok)
	}
	if got, ok := impl.NeededChanges(rates, x); ok || got != 0 {
		t.Error("NeededChanges", len(rates), x, got, ok)
	}
	checkNotCheap(t, rates, x, costs)
}

// checkNoChangeOf checks that two covers differ in something that no change changes, or are not valid.
func checkNoChangeOf(t *testing.T, x, y impl.Cover) {
	t.Helper()
	if got, ok := impl.ChangeOf(x, y); ok || got != 0 {
		t.Error("ChangeOf", x, y, got, ok)
	}
}

// checkNotExplained checks that nothing is told of a cover against rates of which one is not valid.
func checkNotExplained(t *testing.T, rates []impl.Rate, x impl.Cover) {
	t.Helper()
	if got, ok := impl.IsExplained(rates, x); ok || got {
		t.Error("IsExplained", len(rates), x, got, ok)
	}
	if got, ok := impl.PossibleChanges(rates, x); ok || len(got) != 0 {
		t.Error("PossibleChanges", len(rates), x, got, ok)
	}
	for change := range 16 {
		checkNotMade(t, rates, x, change)
	}
	checkNoChange(t, rates, x, [4]int{0, 1, 500, 1000})
}

func TestChangesOfCoversThatAreNone(t *testing.T) {
	for _, x := range badCovers() {
		checkNotExplained(t, nil, x)
		checkNotExplained(t, exampleRates, x)
		checkNoChangeOf(t, x, goodCover)
		checkNoChangeOf(t, goodCover, x)
		checkNoChangeOf(t, x, x)
	}
}

func TestChangesAgainstRatesThatAreNone(t *testing.T) {
	for _, rates := range badRateLists() {
		checkNotExplained(t, rates, goodCover)
		checkNotExplained(t, rates, paidCover(12, 2, 20, 5))
		checkNotExplained(t, rates, paidCover(40, 5, 101, 7))
	}
}

func TestChangesAndCostsThatAreNone(t *testing.T) {
	for _, rates := range [][]impl.Rate{nil, exampleRates} {
		for _, x := range []impl.Cover{goodCover, paidCover(12, 0, 20, 5), paidCover(40, 5, 101, 7)} {
			for _, n := range farChanges {
				checkNotMade(t, rates, x, n)
			}
			for _, n := range farCosts {
				for i := range 4 {
					costs := [4]int{0, 1, 500, 1000}
					costs[i] = n
					checkNotCheap(t, rates, x, costs)
				}
				checkNotCheap(t, rates, x, [4]int{n, n, n, n})
			}
		}
	}
}

func TestChangesOfFullRates(t *testing.T) {
	// The rates differ in their Days alone, with one cent more on each.
	full := ratesWith(impl.MaxRates)
	last := 2 * (impl.MaxRates - 1)
	if got, y, ok := impl.LeastChange(full, paidCover(1, 2, 20, impl.MaxRates)); !ok || got != impl.ChangeDay || y != paidCover(last, 2, 20, impl.MaxRates) {
		t.Error("the last of all rates", got, y, ok)
	}
	if got, ok := impl.MakeCover(full, paidCover(last, 3, 21, 9), 15); !ok || got != paidCover(0, 2, 1, 1) {
		t.Error("the first of all rates", got, ok)
	}
	checkNotExplained(t, ratesWith(impl.MaxRates+1), paidCover(0, 2, 20, 1))
}

func TestChangesChangeNoArgument(t *testing.T) {
	// Behind the list there is room that is neither read nor written.
	room := append(slices.Clone(exampleRates), impl.Rate{Zone: 9, Grams: 200, From: 40, Until: 49, Cents: 7}, impl.Rate{Zone: -1})
	kept := slices.Clone(room)
	rates := room[:len(exampleRates)]
	x := paidCover(40, 9, 200, 7)
	if got, ok := impl.PossibleChanges(rates, x); !ok || !slices.Equal(got, changesWith(13)) {
		t.Error("a rate from behind the list", got, ok)
	}
	for _, list := range [][]impl.Rate{rates, room[:len(exampleRates)+1], room} {
		for _, cover := range []impl.Cover{x, goodCover, {}} {
			impl.IsExplained(list, cover)
			impl.LeastChange(list, cover)
			impl.NeededChanges(list, cover)
			impl.PossibleChanges(list, cover)
			impl.CheapestChange(list, cover, [4]int{3, 2, 1, 0})
			for change := range 16 {
				impl.MakeCover(list, cover, change)
			}
		}
	}
	if !slices.Equal(room, kept) {
		t.Error("an argument was changed", room)
	}
}

func TestResultsOfChangesAreNew(t *testing.T) {
	x := paidCover(5, 5, 20, 5)
	for range 2 {
		got, ok := impl.PossibleChanges(exampleRates, x)
		if !ok || !slices.Equal(got, changesWith(2)) {
			t.Error("a changed result changed what follows", got, ok)
		}
		for i := range got {
			got[i] = 77
		}
	}
}
