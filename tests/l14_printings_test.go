package tests

import (
	"math"
	"math/rand"
	"slices"
	"testing"

	"loop.example/g01062/impl"
)

var goodPrinting = impl.Printing{Number: 7, Day: 100, Sheets: 50, Hue: 40, Spread: 5}

// farNumbers are those of no printing.
var farNumbers = append([]int{-99, -2, -1, 0, 100, 101, 199, 999}, farInts...)

// unprintedNumbers are those of no example printing.
var unprintedNumbers = append([]int{2, 5, 8, 10, 98}, farNumbers...)

// farSheets are no Sheets.
var farSheets = append([]int{-9999, -2, -1, 0, 10000, 10001, 99999}, farInts...)

// farInkHues are no Hues of a printing.
var farInkHues = append([]int{-100, -2, -1, 101, 102, 359}, farInts...)

// farSpreads are no Spreads.
var farSpreads = append([]int{-20, -5, -2, -1, 21, 22, 40, 100}, farInts...)

// farTones are none.
var farTones = append([]int{-120, -22, -21, 121, 122, 220, 999}, farInts...)

// examplePrintings have the tones 40..50, 45..55, 80..120, -20..20 and 60.
func examplePrintings() []impl.Printing {
	return printingsOf([5]int{1, 100, 100, 45, 5}, [5]int{3, 200, 300, 50, 5}, [5]int{4, 350, 50, 100, 20}, [5]int{9, 400, 50, 0, 20}, [5]int{99, 4000, 9999, 60, 0})
}

// printingsOf makes printings of Number, Day, Sheets, Hue and Spread.
func printingsOf(fields ...[5]int) []impl.Printing {
	list := []impl.Printing{}
	for _, x := range fields {
		list = append(list, impl.Printing{Number: x[0], Day: x[1], Sheets: x[2], Hue: x[3], Spread: x[4]})
	}
	return list
}

// printed makes a list of one printing with the tones from Hue less Spread to Hue plus Spread.
func printed(hue, spread int) []impl.Printing {
	return printingsOf([5]int{7, 100, 50, hue, spread})
}

// leftOn makes printings with the Numbers 1, 2, 3 and so on and some Days.
func leftOn(days ...int) []impl.Printing {
	list := []impl.Printing{}
	for i, day := range days {
		list = append(list, impl.Printing{Number: i + 1, Day: day, Sheets: 50, Hue: 40, Spread: 5})
	}
	return list
}

// withSheets makes printings with the Numbers and the Days 1, 2, 3 and so on and some Sheets, all with the tones 35..45.
func withSheets(sheets ...int) []impl.Printing {
	list := leftOn(window(1, len(sheets))...)
	for i, n := range sheets {
		list[i].Sheets = n
	}
	return list
}

// inTones makes printings with the Numbers and the Days 1, 2, 3 and so on, and some Hues and Spreads.
func inTones(pairs ...[2]int) []impl.Printing {
	list := leftOn(window(1, len(pairs))...)
	for i, x := range pairs {
		list[i].Hue, list[i].Spread = x[0], x[1]
	}
	return list
}

// fullPress are as many printings as there may be, each with the most Sheets.
func fullPress() []impl.Printing {
	return withSheets(slices.Repeat([]int{9999}, impl.MaxPrintings)...)
}

// badPrintings are not valid, each in one field.
func badPrintings() []impl.Printing {
	list := []impl.Printing{{}, {Day: 100, Sheets: 50, Hue: 40, Spread: 5}, {Number: 7, Day: 100, Hue: 40, Spread: 5}}
	for _, n := range farNumbers {
		list = append(list, impl.Printing{Number: n, Day: 100, Sheets: 50, Hue: 40, Spread: 5})
	}
	for _, n := range farDays {
		list = append(list, impl.Printing{Number: 7, Day: n, Sheets: 50, Hue: 40, Spread: 5})
	}
	for _, n := range farSheets {
		list = append(list, impl.Printing{Number: 7, Day: 100, Sheets: n, Hue: 40, Spread: 5})
	}
	for _, n := range farInkHues {
		list = append(list, impl.Printing{Number: 7, Day: 100, Sheets: 50, Hue: n, Spread: 5})
	}
	for _, n := range farSpreads {
		list = append(list, impl.Printing{Number: 7, Day: 100, Sheets: 50, Hue: 40, Spread: n})
	}
	return list
}

// badPrintingLists are no Printings.
func badPrintingLists() [][]impl.Printing {
	lists := [][]impl.Printing{
		append(fullPress(), impl.Printing{Number: 99, Day: 4000, Sheets: 1}), leftOn(window(1, impl.MaxPrintings+1)...), leftOn(window(1, 99)...), make([]impl.Printing, 1), make([]impl.Printing, impl.MaxPrintings), make([]impl.Printing, 1000000),
		// The same printing twice, behind each other and with another one between.
		{goodPrinting, goodPrinting}, printingsOf([5]int{7, 100, 50, 40, 5}, [5]int{8, 101, 50, 40, 5}, [5]int{7, 100, 50, 40, 5}),
		// Numbers that are equal or descend, while the Days rise.
		printingsOf([5]int{7, 100, 50, 40, 5}, [5]int{7, 101, 50, 40, 5}), printingsOf([5]int{8, 100, 50, 40, 5}, [5]int{7, 101, 50, 40, 5}), printingsOf([5]int{99, 0, 50, 40, 5}, [5]int{1, 4000, 50, 40, 5}),
		printingsOf([5]int{1, 1, 1, 1, 1}, [5]int{3, 2, 1, 1, 1}, [5]int{3, 3, 1, 1, 1}), printingsOf([5]int{1, 1, 1, 1, 1}, [5]int{3, 2, 1, 1, 1}, [5]int{2, 3, 1, 1, 1}), printingsOf([5]int{3, 1, 1, 1, 1}, [5]int{1, 2, 1, 1, 1}, [5]int{4, 3, 1, 1, 1}),
		// Days that are equal or descend, while the Numbers rise.
		leftOn(100, 100), leftOn(0, 0), leftOn(4000, 4000), leftOn(101, 100), leftOn(4000, 0), leftOn(1, 2, 2), leftOn(1, 3, 2), leftOn(2, 1, 3), leftOn(1, 2, 3, 3, 4), leftOn(1, 2, 3, 0),
		// Both are equal or descend.
		printingsOf([5]int{8, 101, 50, 40, 5}, [5]int{7, 100, 50, 40, 5}), printingsOf([5]int{7, 100, 50, 40, 5}, [5]int{7, 100, 60, 20, 3}), printingsOf([5]int{8, 100, 50, 40, 5}, [5]int{7, 100, 50, 40, 5}),
	}
	for _, p := range badPrintings() {
		lists = append(lists, []impl.Printing{p}, []impl.Printing{{Number: 1, Day: 1, Sheets: 1}, p}, []impl.Printing{p, {Number: 99, Day: 4000, Sheets: 1}}, []impl.Printing{{Number: 1, Day: 1, Sheets: 1}, p, {Number: 99, Day: 4000, Sheets: 1}})
	}
	return lists
}

// tonesOf lists the tones of a printing.
func tonesOf(p impl.Printing) []int { return window(p.Hue-p.Spread, 2*p.Spread+1) }

// possible are the printings of which a stamp can be.
func possible(list []impl.Printing, day, tone int) []impl.Printing {
	some := []impl.Printing{}
	for left := 0; left <= day; left++ {
		for _, p := range list {
			if p.Day == left && slices.Contains(tonesOf(p), tone) {
				some = append(some, p)
			}
		}
	}
	return some
}

// numbersOf are the Numbers of printings.
func numbersOf(list []impl.Printing) []int {
	numbers := []int{}
	for _, p := range list {
		numbers = append(numbers, p.Number)
	}
	return numbers
}

// allSheets is the sum of all Sheets.
func allSheets(list []impl.Printing) int {
	sum := 0
	for _, p := range list {
		sum += p.Sheets
	}
	return sum
}

// inLowestTerms divides both numbers of a fraction by each divisor that they have in common.
func inLowestTerms(num, den int) [2]int {
	if num == 0 {
		return [2]int{0, 1}
	}
	for d := 2; d <= num; d++ {
		for num%d == 0 && den%d == 0 {
			num, den = num/d, den/d
		}
	}
	return [2]int{num, den}
}

// daysNear are the Days of printings, the days before and behind them, and the first and the last one of all.
func daysNear(list []impl.Printing) []int {
	days := []int{0, 1, impl.MaxDay - 1, impl.MaxDay}
	for _, p := range list {
		days = append(days, max(p.Day-1, 0), p.Day, min(p.Day+1, impl.MaxDay))
	}
	slices.Sort(days)
	return slices.Compact(days)
}

// randomPrintings makes at most MaxPrintings printings on days near to each other, the tones of which are often the same, and the Sheets of which often have common divisors.
func randomPrintings(r *rand.Rand) []impl.Printing {
	list := []impl.Printing{}
	number, day, hue := r.Intn(5), []int{0, 0, r.Intn(2000), impl.MaxDay - 60}[r.Intn(4)], []int{0, r.Intn(86), 85}[r.Intn(3)]
	for range r.Intn(impl.MaxPrintings + 1) {
		number += 1 + r.Intn(7)
		list = append(list, impl.Printing{
			Number: number, Day: day, Sheets: []int{1 + r.Intn(6), 10 * (1 + r.Intn(6)), 1 + r.Intn(9999)}[r.Intn(3)],
			Hue: hue + r.Intn(16), Spread: []int{0, r.Intn(4), r.Intn(21), 20}[r.Intn(4)],
		})
		day += 1 + r.Intn(5)
	}
	return list
}

func TestConstantsOfPrintings(t *testing.T) {
	if impl.MaxPrintings != 12 {
		t.Error("limit", impl.MaxPrintings)
	}
}

func TestArePrintings(t *testing.T) {
	for _, list := range [][]impl.Printing{
		nil, {}, {goodPrinting}, examplePrintings(), fullPress(), fullPress()[1:], leftOn(0), leftOn(4000), leftOn(0, 1), leftOn(0, 4000), leftOn(3999, 4000), leftOn(window(3989, impl.MaxPrintings)...),
		printed(0, 0), printed(100, 0), printed(0, 20), printed(100, 20), withSheets(1), withSheets(9999), withSheets(9999, 1), inTones([2]int{100, 20}, [2]int{0, 0}),
		printingsOf([5]int{1, 0, 1, 0, 0}), printingsOf([5]int{99, 4000, 9999, 100, 20}), printingsOf([5]int{1, 0, 1, 0, 0}, [5]int{99, 4000, 9999, 100, 20}), printingsOf([5]int{98, 3999, 1, 0, 0}, [5]int{99, 4000, 1, 0, 0}),
		// Only the Numbers and the Days must ascend.
		printingsOf([5]int{1, 0, 9999, 100, 20}, [5]int{2, 1, 9999, 100, 20}, [5]int{3, 2, 1, 0, 0}),
	} {
		if !impl.ArePrintings(list) {
			t.Error("printings", list)
		}
	}
	for _, list := range badPrintingLists() {
		if impl.ArePrintings(list) {
			t.Error("no printings", len(list), list[:min(3, len(list))])
		}
	}
}

func TestPrintingsAtTheirLimits(t *testing.T) {
	for n := -30; n <= 10003; n++ {
		for _, x := range []struct {
			name        string
			p           impl.Printing
			least, most int
		}{
			{"number", impl.Printing{Number: n, Day: 100, Sheets: 50, Hue: 40, Spread: 5}, 1, 99}, {"day", impl.Printing{Number: 7, Day: n, Sheets: 50, Hue: 40, Spread: 5}, 0, 4000}, {"sheets", impl.Printing{Number: 7, Day: 100, Sheets: n, Hue: 40, Spread: 5}, 1, 9999},
			{"hue", impl.Printing{Number: 7, Day: 100, Sheets: 50, Hue: n, Spread: 5}, 0, 100}, {"spread", impl.Printing{Number: 7, Day: 100, Sheets: 50, Hue: 40, Spread: n}, 0, 20}, {"hue alone", impl.Printing{Number: 7, Day: 100, Sheets: 50, Hue: n}, 0, 100},
		} {
			want := n >= x.least && n <= x.most
			if got := impl.ArePrintings([]impl.Printing{x.p}); got != want {
				t.Error(x.name, n, got)
			}
			if _, got := impl.PrintingText(x.p); got != want {
				t.Error("the text of a", x.name, n, got)
			}
		}
	}
	for n := range 20 {
		if got := impl.ArePrintings(leftOn(window(1, n)...)); got != (n <= 12) {
			t.Error("so many printings", n, got)
		}
	}
}

func TestTwoPrintings(t *testing.T) {
	for a := 1; a <= 4; a++ {
		for b := 1; b <= 4; b++ {
			for day := range 4 {
				for other := range 4 {
					list := printingsOf([5]int{10 * a, 10 * day, 50, 40, 5}, [5]int{10 * b, 10 * other, 50, 40, 5})
					if got := impl.ArePrintings(list); got != (a < b && day < other) {
						t.Error("two printings", list, got)
					}
					// One more before them, and one more behind them.
					if got := impl.ArePrintings(slices.Concat(printingsOf([5]int{10, 0, 50, 40, 5}), list)); got != (1 < a && a < b && 0 < day && day < other) {
						t.Error("two behind another one", list, got)
					}
					if got := impl.ArePrintings(append(list, printingsOf([5]int{30, 20, 50, 40, 5})...)); got != (a < b && b < 3 && day < other && other < 2) {
						t.Error("two before another one", list, got)
					}
				}
			}
		}
	}
}

func TestCanBeOf(t *testing.T) {
	for _, x := range []struct {
		list      []impl.Printing
		day, tone int
		want      []int
	}{
		// On just the Day, on the day before, and at the ends of the tones.
		{examplePrintings(), 100, 45, []int{1}}, {examplePrintings(), 99, 45, nil}, {examplePrintings(), 0, 45, nil}, {examplePrintings(), 100, 40, []int{1}}, {examplePrintings(), 100, 39, nil}, {examplePrintings(), 100, 50, []int{1}}, {examplePrintings(), 100, 51, nil},
		{examplePrintings(), 199, 45, []int{1}}, {examplePrintings(), 200, 45, []int{1, 3}}, {examplePrintings(), 200, 44, []int{1}}, {examplePrintings(), 200, 50, []int{1, 3}}, {examplePrintings(), 200, 51, []int{3}}, {examplePrintings(), 4000, 55, []int{3}}, {examplePrintings(), 4000, 56, nil},
		// One tone alone.
		{examplePrintings(), 4000, 60, []int{99}}, {examplePrintings(), 3999, 60, nil}, {examplePrintings(), 4000, 59, nil}, {examplePrintings(), 4000, 61, nil}, {printed(40, 0), 100, 40, []int{7}}, {printed(40, 0), 100, 39, nil}, {printed(40, 0), 100, 41, nil}, {printed(0, 0), 100, 0, []int{7}}, {printed(0, 0), 100, -1, nil}, {printed(100, 0), 100, 101, nil},
		// The least and the greatest tone.
		{examplePrintings(), 400, -20, []int{9}}, {examplePrintings(), 399, -20, nil}, {examplePrintings(), 400, 20, []int{9}}, {examplePrintings(), 400, 21, nil}, {examplePrintings(), 350, 120, []int{4}}, {examplePrintings(), 349, 120, nil}, {examplePrintings(), 350, 80, []int{4}}, {examplePrintings(), 350, 79, nil},
		{printed(0, 19), 4000, -20, nil}, {printed(1, 20), 4000, -20, nil}, {printed(1, 20), 4000, -19, []int{7}}, {printed(100, 19), 4000, 120, nil}, {printed(99, 20), 4000, 120, nil}, {printed(99, 20), 4000, 119, []int{7}},
		// The first and the last day.
		{leftOn(0), 0, 40, []int{1}}, {leftOn(0, 1), 0, 40, []int{1}}, {leftOn(0, 1), 1, 40, []int{1, 2}}, {leftOn(4000), 4000, 40, []int{1}}, {leftOn(4000), 3999, 40, nil}, {leftOn(3999, 4000), 3999, 40, []int{1}},
		// All of them, and only some in between.
		{fullPress(), 4000, 40, window(1, 12)}, {fullPress(), 12, 45, window(1, 12)}, {fullPress(), 11, 35, window(1, 11)}, {fullPress(), 0, 40, nil}, {inTones([2]int{40, 5}, [2]int{60, 5}, [2]int{41, 0}, [2]int{42, 1}), 4000, 41, []int{1, 3, 4}}, {nil, 100, 40, nil}, {[]impl.Printing{}, 0, -20, nil},
	} {
		if got, ok := impl.CanBeOf(x.list, x.day, x.tone); !ok || !slices.Equal(got, x.want) {
			t.Errorf("CanBeOf(%v, %d, %d) = %v, %v, not %v", x.list, x.day, x.tone, got, ok, x.want)
		}
	}
}

func TestEarliestUse(t *testing.T) {
	for _, x := range []struct {
		list       []impl.Printing
		tone, want int
	}{
		{examplePrintings(), 40, 100}, {examplePrintings(), 45, 100}, {examplePrintings(), 50, 100}, {examplePrintings(), 51, 200}, {examplePrintings(), 55, 200}, {examplePrintings(), 60, 4000}, {examplePrintings(), 80, 350}, {examplePrintings(), 120, 350}, {examplePrintings(), -20, 400}, {examplePrintings(), 20, 400}, {examplePrintings(), 0, 400},
		{leftOn(0), 40, 0}, {leftOn(0, 1), 35, 0}, {leftOn(4000), 45, 4000}, {printed(40, 0), 40, 100}, {printed(0, 20), -20, 100}, {printed(100, 20), 120, 100}, {fullPress(), 40, 1},
		{inTones([2]int{10, 5}, [2]int{40, 0}, [2]int{40, 20}, [2]int{40, 0}), 40, 2}, {inTones([2]int{10, 5}, [2]int{40, 0}, [2]int{40, 20}, [2]int{40, 0}), 41, 3},
	} {
		if got, ok := impl.EarliestUse(x.list, x.tone); !ok || got != x.want {
			t.Errorf("EarliestUse(%v, %d) = %d, %v, not %d", x.list, x.tone, got, ok, x.want)
		}
	}
	for _, x := range []struct {
		list []impl.Printing
		tone int
	}{
		{nil, 40}, {[]impl.Printing{}, 0}, {examplePrintings(), 21}, {examplePrintings(), 39}, {examplePrintings(), 56}, {examplePrintings(), 59}, {examplePrintings(), 61}, {examplePrintings(), 79}, {examplePrintings()[:3], -20}, {examplePrintings()[3:], 120},
		{printed(40, 0), 39}, {printed(40, 0), 41}, {printed(0, 19), -20}, {printed(1, 20), -20}, {printed(100, 19), 120}, {printed(99, 20), 120}, {fullPress(), 34}, {fullPress(), 46},
	} {
		checkNeverUsed(t, x.list, x.tone)
	}
}

// checkNeverUsed checks that there is no earliest use of a tone.
func checkNeverUsed(t *testing.T, list []impl.Printing, tone int) {
	t.Helper()
	if got, ok := impl.EarliestUse(list, tone); ok || got != 0 {
		t.Error("EarliestUse", len(list), tone, got, ok)
	}
}

// checkUses checks promise 14 for one tone, on some days in ascending order. It reports whether there is an earliest use.
func checkUses(t *testing.T, list []impl.Printing, tone int, days []int) bool {
	t.Helper()
	first, isUsed := impl.EarliestUse(list, tone)
	for _, day := range days {
		numbers, ok := impl.CanBeOf(list, day, tone)
		if !ok || (len(numbers) > 0) != (isUsed && day >= first) {
			t.Fatal("a stamp of a tone", list, "tone", tone, "day", day, numbers, ok, "earliest use", first, isUsed)
		}
	}
	if isUsed && !slices.Contains(days, first) {
		t.Fatal("an earliest use on another day", list, tone, first)
	}
	return isUsed
}

func TestPromise14StampsFromTheirEarliestUseOn(t *testing.T) {
	r := rand.New(rand.NewSource(1400))
	all := window(0, impl.MaxDay+1)
	for _, list := range [][]impl.Printing{nil, examplePrintings(), leftOn(0, 4000), printed(0, 20), printed(100, 20), inTones([2]int{40, 0}, [2]int{40, 20}, [2]int{20, 20})} {
		for tone := -20; tone <= 120; tone++ {
			checkUses(t, list, tone, all)
		}
	}
	used, unused := 0, 0
	for range 300 {
		list := randomPrintings(r)
		for tone := -20; tone <= 120; tone++ {
			if checkUses(t, list, tone, daysNear(list)) {
				used++
			} else {
				unused++
			}
		}
	}
	if used < 5000 || unused < 5000 {
		t.Error("few tones of a kind", used, unused)
	}
}

func TestSheetsBy(t *testing.T) {
	for _, x := range []struct {
		list      []impl.Printing
		day, want int
	}{
		{examplePrintings(), 0, 0}, {examplePrintings(), 99, 0}, {examplePrintings(), 100, 100}, {examplePrintings(), 101, 100}, {examplePrintings(), 199, 100}, {examplePrintings(), 200, 400}, {examplePrintings(), 349, 400}, {examplePrintings(), 350, 450}, {examplePrintings(), 400, 500}, {examplePrintings(), 3999, 500}, {examplePrintings(), 4000, 10499},
		{nil, 0, 0}, {[]impl.Printing{}, 4000, 0}, {leftOn(0), 0, 50}, {leftOn(0, 1), 0, 50}, {leftOn(0, 1), 1, 100}, {leftOn(4000), 3999, 0}, {leftOn(4000), 4000, 50}, {withSheets(1), 1, 1}, {fullPress(), 12, 119988}, {fullPress(), 4000, 119988}, {fullPress(), 11, 109989}, {fullPress(), 0, 0},
	} {
		if got, ok := impl.SheetsBy(x.list, x.day); !ok || got != x.want {
			t.Errorf("SheetsBy(%v, %d) = %d, %v, not %d", x.list, x.day, got, ok, x.want)
		}
	}
}

func TestShareOfSheets(t *testing.T) {
	for _, x := range []struct {
		list             []impl.Printing
		number, num, den int
	}{
		{examplePrintings()[:2], 1, 1, 4}, {examplePrintings()[:2], 3, 3, 4}, {examplePrintings(), 1, 100, 10499}, {examplePrintings(), 99, 9999, 10499}, {examplePrintings()[:4], 4, 1, 10}, {examplePrintings()[:4], 9, 1, 10}, {examplePrintings()[:4], 3, 3, 5},
		// A share of 1, of a half, and of as many as there may be.
		{withSheets(1), 1, 1, 1}, {withSheets(9999), 1, 1, 1}, {printed(40, 5), 7, 1, 1}, {withSheets(7, 7), 1, 1, 2}, {withSheets(7, 7), 2, 1, 2}, {fullPress(), 1, 1, 12}, {fullPress(), 12, 1, 12},
		// In lowest terms: without a common divisor, with one, and with several ones.
		{withSheets(3, 4), 1, 3, 7}, {withSheets(1, 9999), 1, 1, 10000}, {withSheets(1, 9999), 2, 9999, 10000}, {withSheets(4, 6), 1, 2, 5}, {withSheets(4, 6), 2, 3, 5}, {withSheets(12, 18, 30), 1, 1, 5}, {withSheets(12, 18, 30), 2, 3, 10}, {withSheets(12, 18, 30), 3, 1, 2}, {withSheets(360, 480), 1, 3, 7}, {withSheets(8, 24), 2, 3, 4}, {withSheets(9998, 9999), 1, 9998, 19997},
		// The Day and the tones do not count.
		{printingsOf([5]int{1, 0, 2, 0, 0}, [5]int{2, 4000, 4, 100, 20}), 1, 1, 3}, {printingsOf([5]int{1, 0, 2, 0, 0}, [5]int{2, 4000, 4, 100, 20}), 2, 2, 3},
	} {
		if num, den, ok := impl.ShareOfSheets(x.list, x.number); !ok || num != x.num || den != x.den {
			t.Errorf("ShareOfSheets(%v, %d) = %d, %d, %v, not %d, %d", x.list, x.number, num, den, ok, x.num, x.den)
		}
	}
}

func TestChanceOf(t *testing.T) {
	thirds := printingsOf([5]int{1, 10, 4, 40, 5}, [5]int{2, 20, 6, 45, 5}, [5]int{3, 30, 8, 50, 5})
	for _, x := range []struct {
		list              []impl.Printing
		number, day, tone int
		num, den          int
	}{
		{examplePrintings(), 1, 200, 48, 1, 4}, {examplePrintings(), 3, 200, 48, 3, 4}, {examplePrintings(), 1, 4000, 45, 1, 4}, {examplePrintings(), 1, 199, 48, 1, 1}, {examplePrintings(), 1, 100, 40, 1, 1}, {examplePrintings(), 99, 4000, 60, 1, 1}, {examplePrintings(), 9, 400, -20, 1, 1}, {examplePrintings(), 4, 350, 120, 1, 1},
		// It has not left the press, or has not the tone, or neither, while another one can be.
		{examplePrintings(), 3, 199, 48, 0, 1}, {examplePrintings(), 3, 100, 50, 0, 1}, {examplePrintings(), 3, 200, 44, 0, 1}, {examplePrintings(), 1, 200, 51, 0, 1}, {examplePrintings(), 99, 100, 45, 0, 1}, {examplePrintings(), 99, 4000, 45, 0, 1}, {examplePrintings(), 4, 4000, 55, 0, 1}, {examplePrintings(), 1, 4000, 60, 0, 1},
		// Two of three, the three, and the one in between not.
		{thirds, 1, 20, 40, 2, 5}, {thirds, 2, 20, 40, 3, 5}, {thirds, 3, 20, 40, 0, 1}, {thirds, 1, 30, 45, 2, 9}, {thirds, 2, 30, 45, 1, 3}, {thirds, 3, 30, 45, 4, 9}, {thirds, 3, 29, 45, 0, 1}, {thirds, 2, 30, 50, 3, 7}, {thirds, 3, 30, 50, 4, 7}, {thirds, 1, 30, 50, 0, 1}, {thirds, 3, 30, 51, 1, 1},
		{inTones([2]int{40, 1}, [2]int{60, 1}, [2]int{40, 1}), 1, 3, 40, 1, 2}, {inTones([2]int{40, 1}, [2]int{60, 1}, [2]int{40, 1}), 2, 3, 40, 0, 1}, {inTones([2]int{40, 1}, [2]int{60, 1}, [2]int{40, 1}), 3, 3, 40, 1, 2},
		{withSheets(1, 9999), 1, 2, 40, 1, 10000}, {withSheets(1, 9999), 2, 2, 40, 9999, 10000}, {withSheets(360, 480), 1, 2, 40, 3, 7}, {fullPress(), 5, 12, 40, 1, 12}, {fullPress(), 5, 7, 40, 1, 7}, {leftOn(0), 1, 0, 35, 1, 1},
	} {
		if num, den, ok := impl.ChanceOf(x.list, x.number, x.day, x.tone); !ok || num != x.num || den != x.den {
			t.Errorf("ChanceOf(%v, %d, %d, %d) = %d, %d, %v, not %d, %d", x.list, x.number, x.day, x.tone, num, den, ok, x.num, x.den)
		}
	}
	// Where a stamp can be of none, it fails for each of them.
	for _, x := range []struct{ day, tone int }{{0, 45}, {99, 45}, {99, 40}, {100, 39}, {100, 51}, {199, 55}, {4000, 21}, {4000, 56}, {4000, 79}, {3999, 60}, {399, -20}, {349, 120}, {0, -20}, {4000, 39}} {
		for _, p := range examplePrintings() {
			checkNoChance(t, examplePrintings(), p.Number, x.day, x.tone)
		}
	}
}

// checkNoChance checks that a stamp has no chance to be of a printing, not even none.
func checkNoChance(t *testing.T, list []impl.Printing, number, day, tone int) {
	t.Helper()
	if num, den, ok := impl.ChanceOf(list, number, day, tone); ok || num != 0 || den != 0 {
		t.Error("ChanceOf", len(list), number, day, tone, num, den, ok)
	}
}

func TestNextPrinting(t *testing.T) {
	for _, x := range []struct {
		list   []impl.Printing
		number int
	}{
		{nil, 1}, {[]impl.Printing{}, 1}, {leftOn(0), 2}, {leftOn(0, 1), 3}, {leftOn(3998), 2}, {printed(0, 20), 8}, {printingsOf([5]int{98, 0, 1, 0, 0}), 99}, {printingsOf([5]int{3, 0, 1, 0, 0}, [5]int{97, 3998, 1, 0, 0}), 98}, {examplePrintings()[:3], 5}, {examplePrintings()[:4], 10}, {leftOn(window(1, impl.MaxPrintings-1)...), 12}, {fullPress()[1:], 13},
	} {
		least := 0
		if len(x.list) > 0 {
			least = x.list[len(x.list)-1].Day + 1
		}
		for _, day := range []int{least, 3999, 4000} {
			for _, sheets := range []int{1, 50, 9999} {
				for _, hue := range []int{0, 40, 100} {
					for _, spread := range []int{0, 5, 20} {
						want := append(slices.Clone(x.list), impl.Printing{Number: x.number, Day: day, Sheets: sheets, Hue: hue, Spread: spread})
						if got, number, ok := impl.NextPrinting(x.list, day, sheets, hue, spread); !ok || number != x.number || !slices.Equal(got, want) || !impl.ArePrintings(got) {
							t.Fatalf("NextPrinting(%v, %d, %d, %d, %d) = %v, %d, %v", x.list, day, sheets, hue, spread, got, number, ok)
						}
					}
				}
			}
		}
		// On the Day of the last one and before it.
		for day := max(least-3, 0); day < least; day++ {
			checkNotPrinted(t, x.list, day, 50, 40, 5)
		}
	}
	list := []impl.Printing{}
	for i := range impl.MaxPrintings {
		longer, number, ok := impl.NextPrinting(list, 10*i, 1+i, i, i)
		if !ok || number != i+1 || len(longer) != i+1 || longer[i] != (impl.Printing{Number: i + 1, Day: 10 * i, Sheets: 1 + i, Hue: i, Spread: i}) {
			t.Fatal("one behind the other", i, longer, number, ok)
		}
		list = longer
	}
	checkNotPrinted(t, list, 4000, 50, 40, 5)
}

// checkNotPrinted checks that there cannot be such a next printing.
func checkNotPrinted(t *testing.T, list []impl.Printing, day, sheets, hue, spread int) {
	t.Helper()
	if got, number, ok := impl.NextPrinting(list, day, sheets, hue, spread); ok || number != 0 || len(got) != 0 {
		t.Error("NextPrinting", len(list), day, sheets, hue, spread, got, number, ok)
	}
}

func TestPrintingsThatCannotBeNext(t *testing.T) {
	// Behind Number 99, behind the last day, and one too many.
	for _, list := range [][]impl.Printing{printingsOf([5]int{99, 100, 50, 40, 5}), printingsOf([5]int{1, 0, 50, 40, 5}, [5]int{99, 100, 50, 40, 5}), leftOn(4000), leftOn(0, 4000), examplePrintings(), fullPress(), leftOn(window(3980, impl.MaxPrintings)...)} {
		for _, day := range []int{0, 100, 101, 3999, 4000, 4001} {
			checkNotPrinted(t, list, day, 50, 40, 5)
			checkNotPrinted(t, list, day, 1, 0, 0)
		}
	}
	for _, list := range [][]impl.Printing{nil, {}, leftOn(0, 1), examplePrintings()[:4]} {
		for _, n := range farDays {
			checkNotPrinted(t, list, n, 50, 40, 5)
		}
		for _, n := range farSheets {
			checkNotPrinted(t, list, 1000, n, 40, 5)
		}
		for _, n := range farInkHues {
			checkNotPrinted(t, list, 1000, 50, n, 5)
		}
		for _, n := range farSpreads {
			checkNotPrinted(t, list, 1000, 50, 40, n)
		}
	}
}

func TestRarestPrinting(t *testing.T) {
	for _, x := range []struct {
		list []impl.Printing
		want int
	}{
		{examplePrintings(), 4}, {examplePrintings()[:2], 1}, {examplePrintings()[3:], 9}, {examplePrintings()[4:], 99}, {printed(40, 5), 7}, {withSheets(1), 1}, {withSheets(9999), 1}, {withSheets(2, 1), 2}, {withSheets(1, 2), 1}, {withSheets(9999, 9998), 2}, {withSheets(3, 2, 1), 3}, {withSheets(3, 1, 2), 2},
		// The same number of Sheets: of all, of the first ones, of the last ones and of some with another one between.
		{fullPress(), 1}, {withSheets(5, 5), 1}, {withSheets(5, 5, 6), 1}, {withSheets(6, 5, 5), 2}, {withSheets(5, 6, 5), 1}, {withSheets(6, 5, 6, 5, 6), 2}, {withSheets(6, 5, 5, 4), 4},
	} {
		if got, ok := impl.RarestPrinting(x.list); !ok || got != x.want {
			t.Error("rarest", x.list, got, ok)
		}
	}
	checkNoneRarest(t, nil)
	checkNoneRarest(t, []impl.Printing{})
}

// checkNoneRarest checks that no printing is the rarest one.
func checkNoneRarest(t *testing.T, list []impl.Printing) {
	t.Helper()
	if got, ok := impl.RarestPrinting(list); ok || got != 0 {
		t.Error("RarestPrinting", len(list), got, ok)
	}
}

func TestUniqueTones(t *testing.T) {
	for _, x := range []struct {
		list   []impl.Printing
		number int
		want   []int
	}{
		{examplePrintings(), 1, window(40, 5)}, {examplePrintings(), 3, window(51, 5)}, {examplePrintings(), 4, window(80, 41)}, {examplePrintings(), 9, window(-20, 41)}, {examplePrintings(), 99, []int{60}},
		// One alone has all its tones, the least and the greatest ones too.
		{printed(40, 5), 7, window(35, 11)}, {printed(0, 20), 7, window(-20, 41)}, {printed(100, 20), 7, window(80, 41)}, {printed(0, 0), 7, []int{0}}, {printed(100, 0), 7, []int{100}},
		// Two have all in common, or none, and two that touch; and one tone of both.
		{inTones([2]int{40, 5}, [2]int{40, 5}), 1, nil}, {inTones([2]int{40, 5}, [2]int{40, 5}), 2, nil}, {inTones([2]int{40, 0}, [2]int{40, 0}), 1, nil}, {inTones([2]int{40, 5}, [2]int{60, 5}), 1, window(35, 11)}, {inTones([2]int{40, 5}, [2]int{60, 5}), 2, window(55, 11)}, {inTones([2]int{40, 5}, [2]int{51, 5}), 1, window(35, 11)}, {inTones([2]int{40, 5}, [2]int{50, 5}), 1, window(35, 10)}, {inTones([2]int{40, 5}, [2]int{50, 5}), 2, window(46, 10)},
		// One is within the other: in the middle, at an end, and just one tone.
		{inTones([2]int{50, 20}, [2]int{50, 5}), 1, append(window(30, 15), window(56, 15)...)}, {inTones([2]int{50, 20}, [2]int{50, 5}), 2, nil}, {inTones([2]int{50, 20}, [2]int{65, 5}), 1, window(30, 30)}, {inTones([2]int{35, 5}, [2]int{50, 20}), 2, window(41, 30)}, {inTones([2]int{50, 2}, [2]int{50, 0}), 1, []int{48, 49, 51, 52}}, {inTones([2]int{50, 2}, [2]int{50, 0}), 2, nil},
		// Two beside it take all, or leave one; and tones that three have, or two others alone.
		{inTones([2]int{45, 5}, [2]int{50, 5}, [2]int{55, 5}), 2, nil}, {inTones([2]int{45, 4}, [2]int{50, 5}, [2]int{55, 4}), 2, []int{50}}, {inTones([2]int{50, 5}, [2]int{50, 4}, [2]int{50, 3}), 1, []int{45, 55}}, {inTones([2]int{10, 5}, [2]int{50, 4}, [2]int{50, 3}), 1, window(5, 11)}, {fullPress(), 1, nil}, {fullPress(), 12, nil},
		// The Day does not count: one that came later takes tones away, too.
		{leftOn(0, 4000), 1, nil}, {leftOn(0, 4000), 2, nil},
	} {
		if got, ok := impl.UniqueTones(x.list, x.number); !ok || !slices.Equal(got, x.want) {
			t.Errorf("UniqueTones(%v, %d) = %v, %v, not %v", x.list, x.number, got, ok, x.want)
		}
	}
}

func TestLongestPause(t *testing.T) {
	for _, x := range []struct {
		list         []impl.Printing
		number, days int
	}{
		{examplePrintings(), 99, 3600}, {examplePrintings()[:4], 4, 150}, {examplePrintings()[:2], 3, 100}, {examplePrintings()[2:4], 9, 50},
		// Two, with the least and the greatest pause, and the days before the first one, which are no pause.
		{leftOn(0, 1), 2, 1}, {leftOn(3999, 4000), 2, 1}, {leftOn(0, 4000), 2, 4000}, {leftOn(2000, 2001), 2, 1}, {leftOn(3000, 3010, 3015), 2, 10}, {printingsOf([5]int{10, 5, 1, 0, 0}, [5]int{90, 7, 1, 0, 0}), 90, 2},
		// The same pause: of all, of the first ones, of the last ones and of some with another one between.
		{leftOn(10, 20, 30), 2, 10}, {leftOn(10, 20, 30, 35), 2, 10}, {leftOn(10, 15, 25, 35), 3, 10}, {leftOn(10, 20, 25, 35), 2, 10}, {leftOn(10, 20, 30, 41), 4, 11}, {leftOn(10, 20, 31, 41), 3, 11}, {fullPress(), 2, 1},
	} {
		if number, days, ok := impl.LongestPause(x.list); !ok || number != x.number || days != x.days {
			t.Errorf("LongestPause(%v) = %d, %d, %v, not %d, %d", x.list, number, days, ok, x.number, x.days)
		}
	}
	for _, list := range [][]impl.Printing{nil, {}, leftOn(0), leftOn(100), leftOn(4000), printed(40, 5), examplePrintings()[4:]} {
		checkNoPause(t, list)
	}
}

// checkNoPause checks that there is no longest pause.
func checkNoPause(t *testing.T, list []impl.Printing) {
	t.Helper()
	if number, days, ok := impl.LongestPause(list); ok || number != 0 || days != 0 {
		t.Error("LongestPause", len(list), number, days, ok)
	}
}

func TestStampsUntil(t *testing.T) {
	for _, x := range []struct {
		list              []impl.Printing
		per, stamps, want int
	}{
		// Just as many as a printing reaches, and one more.
		{examplePrintings(), 100, 1, 1}, {examplePrintings(), 100, 9999, 1}, {examplePrintings(), 100, 10000, 1}, {examplePrintings(), 100, 10001, 3}, {examplePrintings(), 100, 40000, 3}, {examplePrintings(), 100, 40001, 4}, {examplePrintings(), 100, 45000, 4}, {examplePrintings(), 100, 45001, 9}, {examplePrintings(), 100, 50000, 9}, {examplePrintings(), 100, 50001, 99}, {examplePrintings(), 100, 1049900, 99},
		{examplePrintings(), 1, 100, 1}, {examplePrintings(), 1, 101, 3}, {examplePrintings(), 1, 10499, 99}, {examplePrintings(), 400, 40000, 1}, {examplePrintings(), 400, 40001, 3}, {examplePrintings(), 400, 4199600, 99}, {examplePrintings(), 7, 700, 1}, {examplePrintings(), 7, 701, 3},
		{withSheets(1), 1, 1, 1}, {withSheets(1), 400, 400, 1}, {withSheets(9999), 400, 3999600, 1}, {withSheets(9999, 1), 400, 3999601, 2}, {withSheets(1, 9999), 1, 2, 2}, {fullPress(), 400, 3999600, 1}, {fullPress(), 400, 43995600, 11}, {fullPress(), 400, 43995601, 12}, {fullPress(), 400, 47995200, 12}, {fullPress(), 1, 119988, 12},
	} {
		if got, ok := impl.StampsUntil(x.list, x.per, x.stamps); !ok || got != x.want {
			t.Errorf("StampsUntil(%v, %d, %d) = %d, %v, not %d", x.list, x.per, x.stamps, got, ok, x.want)
		}
	}
	for _, x := range []struct {
		list        []impl.Printing
		per, stamps int
	}{
		{nil, 1, 1}, {[]impl.Printing{}, 400, 1}, {examplePrintings(), 100, 1049901}, {examplePrintings(), 1, 10500}, {examplePrintings(), 400, 50000000}, {withSheets(1), 1, 2}, {withSheets(1), 400, 401}, {withSheets(9999), 400, 3999601}, {fullPress(), 400, 47995201}, {fullPress(), 400, 50000000}, {fullPress(), 1, 119989},
	} {
		checkNeverPrinted(t, x.list, x.per, x.stamps)
	}
}

// checkNeverPrinted checks that so many stamps were not printed.
func checkNeverPrinted(t *testing.T, list []impl.Printing, per, stamps int) {
	t.Helper()
	if got, ok := impl.StampsUntil(list, per, stamps); ok || got != 0 {
		t.Error("StampsUntil", len(list), per, stamps, got, ok)
	}
}

func TestStampsThatCannotBePrinted(t *testing.T) {
	for _, list := range [][]impl.Printing{nil, {}, withSheets(1), examplePrintings(), fullPress()} {
		for _, per := range append([]int{-400, -1, 0, 401, 402, 800}, farInts...) {
			for _, stamps := range []int{1, 2, 400, 10000, 50000000} {
				checkNeverPrinted(t, list, per, stamps)
			}
		}
		for _, stamps := range []int{math.MinInt, math.MinInt + 1, -50000000, -2, -1, 0, 50000001, 50000002, math.MaxInt - 1, math.MaxInt} {
			for _, per := range []int{1, 2, 400} {
				checkNeverPrinted(t, list, per, stamps)
			}
		}
	}
	for n := -3; n <= 500; n++ {
		if got, ok := impl.StampsUntil(withSheets(1, 9999), n, max(n, 1)); ok != (n >= 1 && n <= 400) || ok && got != 1 {
			t.Error("stamps per sheet", n, got, ok)
		}
	}
}

func TestPrintingText(t *testing.T) {
	for _, x := range []struct {
		p    impl.Printing
		want string
	}{
		{goodPrinting, "n7 on 100: 50 sheets 40+-5"}, {examplePrintings()[0], "n1 on 100: 100 sheets 45+-5"}, {examplePrintings()[3], "n9 on 400: 50 sheets 0+-20"}, {examplePrintings()[4], "n99 on 4000: 9999 sheets 60"},
		{impl.Printing{Number: 1, Sheets: 1}, "n1 on 0: 1 sheets 0"}, {impl.Printing{Number: 1, Sheets: 1, Spread: 1}, "n1 on 0: 1 sheets 0+-1"}, {impl.Printing{Number: 99, Day: 4000, Sheets: 9999, Hue: 100, Spread: 20}, "n99 on 4000: 9999 sheets 100+-20"}, {impl.Printing{Number: 12, Day: 7, Sheets: 1000, Hue: 10}, "n12 on 7: 1000 sheets 10"},
	} {
		if got, ok := impl.PrintingText(x.p); !ok || got != x.want {
			t.Errorf("PrintingText(%v) = %q, %v", x.p, got, ok)
		}
	}
	for _, p := range badPrintings() {
		if got, ok := impl.PrintingText(p); ok || got != "" {
			t.Errorf("PrintingText(%v) = %q, %v", p, got, ok)
		}
	}
}

// checkStamp compares what is told of a stamp with the printings that are possible. It reports whether there are some.
func checkStamp(t *testing.T, list []impl.Printing, day, tone int) bool {
	t.Helper()
	some := possible(list, day, tone)
	if got, ok := impl.CanBeOf(list, day, tone); !ok || !slices.Equal(got, numbersOf(some)) {
		t.Fatal("CanBeOf", list, day, tone, got, ok, some)
	}
	for _, p := range list {
		want := [2]int{}
		if len(some) > 0 {
			want = inLowestTerms(0, 1)
		}
		if slices.Contains(some, p) {
			want = inLowestTerms(p.Sheets, allSheets(some))
		}
		if num, den, ok := impl.ChanceOf(list, p.Number, day, tone); ok != (len(some) > 0) || [2]int{num, den} != want {
			t.Fatal("ChanceOf", list, p.Number, day, tone, num, den, ok, want)
		}
	}
	return len(some) > 0
}

// checkPrinting compares what is told of one printing with the others.
func checkPrinting(t *testing.T, list []impl.Printing, p impl.Printing) {
	t.Helper()
	want := inLowestTerms(p.Sheets, allSheets(list))
	if num, den, ok := impl.ShareOfSheets(list, p.Number); !ok || [2]int{num, den} != want {
		t.Fatal("ShareOfSheets", list, p.Number, num, den, ok, want)
	}
	tones := slices.DeleteFunc(tonesOf(p), func(tone int) bool {
		return slices.ContainsFunc(list, func(q impl.Printing) bool { return q != p && slices.Contains(tonesOf(q), tone) })
	})
	if got, ok := impl.UniqueTones(list, p.Number); !ok || !slices.Equal(got, tones) {
		t.Fatal("UniqueTones", list, p.Number, got, ok, tones)
	}
}

// checkPress compares what is told of all printings together with lists that are sorted.
func checkPress(t *testing.T, list []impl.Printing) {
	t.Helper()
	rare, pauses := [][2]int{}, [][2]int{}
	for i, p := range list {
		rare = append(rare, [2]int{p.Sheets, p.Number})
		if i > 0 {
			pauses = append(pauses, [2]int{list[i-1].Day - p.Day, p.Number})
		}
	}
	for _, pairs := range [][][2]int{rare, pauses} {
		slices.SortFunc(pairs, func(x, y [2]int) int { return slices.Compare(x[:], y[:]) })
	}
	// Where there is none, the zero values.
	rare, pauses = append(rare, [2]int{}), append(pauses, [2]int{})
	if got, ok := impl.RarestPrinting(list); ok != (len(list) > 0) || got != rare[0][1] {
		t.Fatal("RarestPrinting", list, got, ok)
	}
	if number, days, ok := impl.LongestPause(list); ok != (len(list) > 1) || number != pauses[0][1] || days != -pauses[0][0] {
		t.Fatal("LongestPause", list, number, days, ok)
	}
}

// checkStamps goes through all sheets and compares the printing of each stamp at some numbers per sheet.
func checkStamps(t *testing.T, list []impl.Printing, per int) {
	t.Helper()
	before := 0
	for _, p := range list {
		upTo := before + p.Sheets*per
		for _, stamps := range []int{before + 1, before + 1 + p.Sheets*per/2, upTo - 1, upTo} {
			if stamps <= before || stamps > upTo {
				continue
			}
			if got, ok := impl.StampsUntil(list, per, stamps); !ok || got != p.Number {
				t.Fatal("StampsUntil", list, per, stamps, got, ok, p.Number)
			}
		}
		before = upTo
	}
	checkNeverPrinted(t, list, per, before+1)
}

func TestRandomPrintings(t *testing.T) {
	r := rand.New(rand.NewSource(1401))
	can, cannot := 0, 0
	for range 100 {
		list := randomPrintings(r)
		if !impl.ArePrintings(list) {
			t.Fatal("no printings", list)
		}
		checkPress(t, list)
		for _, p := range list {
			checkPrinting(t, list, p)
		}
		for _, per := range []int{1, 1 + r.Intn(400), 400} {
			checkStamps(t, list, per)
		}
		for _, day := range daysNear(list) {
			left := slices.DeleteFunc(slices.Clone(list), func(p impl.Printing) bool { return p.Day > day })
			if got, ok := impl.SheetsBy(list, day); !ok || got != allSheets(left) {
				t.Fatal("SheetsBy", list, day, got, ok)
			}
			for range 8 {
				tone := -20 + r.Intn(141)
				if len(list) > 0 && r.Intn(3) > 0 {
					p := list[r.Intn(len(list))]
					tone = min(max(p.Hue+r.Intn(2*p.Spread+5)-p.Spread-2, -20), 120)
				}
				if checkStamp(t, list, day, tone) {
					can++
				} else {
					cannot++
				}
			}
		}
	}
	if can < 2000 || cannot < 2000 {
		t.Error("few stamps of a kind", can, cannot)
	}
}

// checkNoStamp checks that nothing is told of a stamp of a day and a tone.
func checkNoStamp(t *testing.T, list []impl.Printing, number, day, tone int) {
	t.Helper()
	if got, ok := impl.CanBeOf(list, day, tone); ok || len(got) != 0 {
		t.Error("CanBeOf", len(list), day, tone, got, ok)
	}
	checkNoChance(t, list, number, day, tone)
}

// checkNoNumber checks that nothing is told of the printing with a Number.
func checkNoNumber(t *testing.T, list []impl.Printing, number int) {
	t.Helper()
	if num, den, ok := impl.ShareOfSheets(list, number); ok || num != 0 || den != 0 {
		t.Error("ShareOfSheets", len(list), number, num, den, ok)
	}
	if got, ok := impl.UniqueTones(list, number); ok || len(got) != 0 {
		t.Error("UniqueTones", len(list), number, got, ok)
	}
	for _, day := range []int{0, 100, 200, 4000} {
		for _, tone := range []int{-20, 0, 40, 45, 120} {
			checkNoChance(t, list, number, day, tone)
		}
	}
}

// checkNoSheets checks that nothing is told of the sheets by a day.
func checkNoSheets(t *testing.T, list []impl.Printing, day int) {
	t.Helper()
	if got, ok := impl.SheetsBy(list, day); ok || got != 0 {
		t.Error("SheetsBy", len(list), day, got, ok)
	}
}

func TestDaysAndTonesOfNoStamps(t *testing.T) {
	for _, list := range [][]impl.Printing{nil, {}, printed(0, 20), printed(100, 20), leftOn(0), leftOn(4000), examplePrintings(), fullPress()} {
		number := 7
		if len(list) > 0 {
			number = list[0].Number
		}
		for _, day := range farDays {
			checkNoSheets(t, list, day)
			for _, tone := range []int{-20, 0, 40, 100, 120} {
				checkNoStamp(t, list, number, day, tone)
			}
		}
		for _, tone := range farTones {
			checkNeverUsed(t, list, tone)
			for _, day := range []int{0, 100, 4000} {
				checkNoStamp(t, list, number, day, tone)
			}
		}
		for n := -130; n <= 4100; n++ {
			_, byTone := impl.CanBeOf(list, 100, n)
			_, byDay := impl.CanBeOf(list, n, 40)
			_, sheets := impl.SheetsBy(list, n)
			if byTone != (n >= -20 && n <= 120) || byDay != (n >= 0 && n <= 4000) || sheets != byDay {
				t.Fatal("a day and a tone", n, byTone, byDay, sheets)
			}
		}
	}
}

func TestNumbersOfNoPrintings(t *testing.T) {
	for _, number := range unprintedNumbers {
		checkNoNumber(t, examplePrintings(), number)
		checkNoNumber(t, nil, number)
		checkNoNumber(t, []impl.Printing{}, number)
	}
	for _, number := range window(-20, 150) {
		checkNoNumber(t, nil, number)
		isThere := slices.Contains(numbersOf(examplePrintings()), number)
		if !isThere {
			checkNoNumber(t, examplePrintings(), number)
		}
		if _, ok := impl.UniqueTones(examplePrintings(), number); ok != isThere {
			t.Error("a number", number, ok)
		}
	}
}

func TestListsThatAreNoPrintings(t *testing.T) {
	for _, list := range badPrintingLists() {
		for _, day := range []int{0, 100, 101, 4000} {
			checkNoSheets(t, list, day)
			checkNotPrinted(t, list, day, 50, 40, 5)
			for _, tone := range []int{-20, 0, 40, 45, 120} {
				checkNoStamp(t, list, 7, day, tone)
			}
		}
		for tone := -21; tone <= 121; tone++ {
			checkNeverUsed(t, list, tone)
		}
		for _, number := range []int{1, 7, 8, 99} {
			checkNoNumber(t, list, number)
		}
		// The Numbers, the Days and the tones that the list has.
		for _, p := range list[:min(len(list), 3)] {
			checkNoNumber(t, list, p.Number)
			checkNoSheets(t, list, p.Day)
			checkNeverUsed(t, list, p.Hue)
			checkNoStamp(t, list, p.Number, p.Day, p.Hue)
		}
		checkNoneRarest(t, list)
		checkNoPause(t, list)
		checkNeverPrinted(t, list, 1, 1)
		checkNeverPrinted(t, list, 400, 100)
	}
}

// callPress calls all functions of the chapter.
func callPress(list []impl.Printing, number, day, tone int) {
	impl.ArePrintings(list)
	impl.CanBeOf(list, day, tone)
	impl.EarliestUse(list, tone)
	impl.SheetsBy(list, day)
	impl.ShareOfSheets(list, number)
	impl.ChanceOf(list, number, day, tone)
	impl.NextPrinting(list, day, 50, 40, 5)
	impl.RarestPrinting(list)
	impl.UniqueTones(list, number)
	impl.LongestPause(list)
	impl.StampsUntil(list, 100, 1000+number)
	if len(list) > 0 {
		impl.PrintingText(list[0])
	}
}

func TestPrintingsChangeNoArgument(t *testing.T) {
	// Behind the list there is room with printings that would count.
	room := append(examplePrintings()[:4], printingsOf([5]int{10, 500, 1, 45, 20}, [5]int{11, 4000, 9999, 70, 5}, [5]int{0, 1, 0, 0, 0})...)
	kept := slices.Clone(room)
	lists := [][]impl.Printing{room[:4], room, room[:1], room[1:3], room[:0], room[:6], room[:5], room[3:4]}
	for _, l := range lists {
		for _, p := range room {
			for _, day := range []int{-1, 0, 99, 100, 200, 401, 3999, 4000, 4001} {
				for _, tone := range []int{-21, -20, 40, 45, 60, 120, 121} {
					callPress(l, p.Number, day, tone)
				}
			}
		}
	}
	if !slices.Equal(room, kept) {
		t.Error("an argument was changed", room)
	}
	list := room[:4]
	numbers, _ := impl.CanBeOf(list, 4000, 45)
	sheets, _ := impl.SheetsBy(list, 4000)
	num, den, _ := impl.ShareOfSheets(list, 4)
	rarest, _ := impl.RarestPrinting(list)
	tones, _ := impl.UniqueTones(list, 1)
	number, days, _ := impl.LongestPause(list)
	if !slices.Equal(numbers, []int{1, 3}) || sheets != 500 || num != 1 || den != 10 || rarest != 4 || !slices.Equal(tones, window(40, 5)) || number != 4 || days != 150 {
		t.Error("something from behind the list", numbers, sheets, num, den, rarest, tones, number, days)
	}
	checkNeverUsed(t, list, 70)
	checkNeverPrinted(t, list, 1, 501)
	checkNoNumber(t, list, 10)
}

func TestResultsOfPrintingsAreNew(t *testing.T) {
	room := examplePrintings()
	list := room[:4]
	for range 2 {
		longer, number, ok := impl.NextPrinting(list, 500, 60, 30, 0)
		other, _, _ := impl.NextPrinting(list, 600, 70, 20, 1)
		numbers, _ := impl.CanBeOf(list, 200, 45)
		tones, _ := impl.UniqueTones(list, 1)
		if !ok || number != 10 || !slices.Equal(longer, append(examplePrintings()[:4], printingsOf([5]int{10, 500, 60, 30, 0})...)) || !slices.Equal(other, append(examplePrintings()[:4], printingsOf([5]int{10, 600, 70, 20, 1})...)) || !slices.Equal(numbers, []int{1, 3}) || !slices.Equal(tones, window(40, 5)) {
			t.Error("a changed result changed what follows", longer, number, ok, other, numbers, tones)
		}
		kept := slices.Clone(other)
		for i := range longer {
			longer[i] = impl.Printing{Number: 77}
		}
		_ = append(longer, impl.Printing{Number: 78})
		clear(numbers)
		clear(tones)
		if !slices.Equal(other, kept) {
			t.Error("a changed result changed another one", other)
		}
	}
	if !slices.Equal(room, examplePrintings()) {
		t.Error("a changed result changed an argument", room)
	}
	// The caller changes the list that it gave.
	longer, _, _ := impl.NextPrinting(list, 500, 60, 30, 0)
	clear(room)
	if !slices.Equal(longer, append(examplePrintings()[:4], printingsOf([5]int{10, 500, 60, 30, 0})...)) {
		t.Error("a changed argument changed the result", longer)
	}
}
