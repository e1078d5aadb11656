package tests

import (
	"math/rand"
	"slices"
	"testing"

	"loop.example/g01062/impl"
)

// goodCover has no fault against exampleRates and exampleMails: it is paid just its rate, and comes just in time.
var goodCover = impl.Cover{Id: 7, Day: 5, Grams: 20, Paid: 5, To: 3, Arrive: 25}

// farCoverIds are none.
var farCoverIds = append([]int{-999, -2, -1, 0, 1000, 1001, 1999, 9999}, farInts...)

// paidCover is goodCover with another postage.
func paidCover(day, zone, grams, paid int) impl.Cover {
	x := goodCover
	x.Day, x.Zone, x.Grams, x.Paid = day, zone, grams, paid
	return x
}

// sentCover is goodCover on another way.
func sentCover(from, to, leave, arrive int) impl.Cover {
	x := goodCover
	x.From, x.To, x.Leave, x.Arrive = from, to, leave, arrive
	return x
}

// numbered gives covers the Ids from 1 on.
func numbered(list ...impl.Cover) []impl.Cover {
	for i := range list {
		list[i].Id = i + 1
	}
	return list
}

// coversWithIds makes covers that differ in their Ids alone.
func coversWithIds(ids ...int) []impl.Cover {
	list := []impl.Cover{}
	for _, id := range ids {
		x := goodCover
		x.Id = id
		list = append(list, x)
	}
	return list
}

// badCovers are not valid, each in one field, or in two together.
func badCovers() []impl.Cover {
	list := append(coversWithIds(farCoverIds...), impl.Cover{})
	for _, n := range farDays {
		list = append(list, paidCover(n, 0, 20, 5))
	}
	for _, n := range farZones {
		list = append(list, paidCover(5, n, 20, 5))
	}
	for _, n := range farWeights {
		list = append(list, paidCover(5, 0, n, 5))
	}
	for _, n := range farRates {
		list = append(list, paidCover(5, 0, 20, n))
	}
	for _, n := range farOffices {
		list = append(list, sentCover(n, 3, 0, 25), sentCover(0, n, 0, 25), sentCover(n, n, 0, 25))
	}
	for _, n := range farMinutes {
		list = append(list, sentCover(0, 3, n, 25), sentCover(0, 3, 0, n), sentCover(0, 3, n, n))
	}
	for office := range 10 {
		list = append(list, sentCover(office, office, 0, 25), sentCover(office, office, 7, 7))
	}
	for _, x := range [][2]int{{1, 0}, {26, 25}, {25, 0}, {9999, 9998}, {9999, 0}, {9999, 25}, {5001, 5000}} {
		list = append(list, sentCover(0, 3, x[0], x[1]))
	}
	return list
}

// badCoverLists are no Covers.
func badCoverLists() [][]impl.Cover {
	lists := [][]impl.Cover{
		coversWithIds(upTo(impl.MaxCovers + 2)[1:]...), coversWithIds(upTo(101)[1:]...), make([]impl.Cover, 1), make([]impl.Cover, 1000000),
		// The same Id twice, behind each other and with another one between, with the same and with other fields.
		coversWithIds(7, 7), coversWithIds(1, 7, 7), coversWithIds(7, 8, 7), {goodCover, paidCover(6, 1, 10, 9)}, {goodCover, sentCover(1, 2, 3, 40)},
		// Ids that descend.
		coversWithIds(8, 7), coversWithIds(999, 1), coversWithIds(1, 3, 2), coversWithIds(3, 1, 2),
	}
	for _, x := range badCovers() {
		lists = append(lists, []impl.Cover{x})
		if x.Id == goodCover.Id {
			lists = append(lists, append(coversWithIds(6), x), append([]impl.Cover{x}, coversWithIds(8)...))
		}
	}
	return lists
}

// exampleCovers have, against exampleRates and exampleMails, each fault at least once, and twice none.
func exampleCovers() []impl.Cover {
	early, route := sentCover(0, 3, 0, 24), sentCover(3, 0, 0, 25)
	return numbered(paidCover(5, 0, 20, 4), goodCover, early, paidCover(5, 0, 20, 11), paidCover(5, 5, 20, 5), route, paidCover(5, 0, 20, 10), sentCover(0, 3, 0, 0))
}

// A handing is what a cover tells of its postage or its way, with its fault.
type handing struct {
	cover impl.Cover
	fault int
}

// postages are all on goodCover's way, against exampleRates.
func postages() []handing {
	return []handing{
		// Just the rate, one cent less, twice the rate and one cent more.
		{paidCover(5, 0, 20, 5), impl.CoverTrue}, {paidCover(5, 0, 20, 4), impl.CoverShort}, {paidCover(5, 0, 20, 10), impl.CoverTrue}, {paidCover(5, 0, 20, 11), impl.CoverOver},
		{paidCover(5, 0, 20, 6), impl.CoverTrue}, {paidCover(5, 0, 20, 9), impl.CoverTrue}, {paidCover(5, 0, 20, 1), impl.CoverShort}, {paidCover(5, 0, 20, 9999), impl.CoverOver},
		// On the first and the last day of a rate, and on those beside them.
		{paidCover(0, 0, 20, 5), impl.CoverTrue}, {paidCover(9, 0, 20, 5), impl.CoverTrue}, {paidCover(10, 0, 20, 5), impl.CoverShort}, {paidCover(9, 0, 20, 12), impl.CoverOver}, {paidCover(10, 0, 20, 12), impl.CoverTrue}, {paidCover(10, 0, 20, 13), impl.CoverOver},
		{paidCover(19, 0, 20, 6), impl.CoverTrue}, {paidCover(20, 0, 20, 6), impl.CoverShort}, {paidCover(19, 0, 20, 16), impl.CoverOver}, {paidCover(20, 0, 20, 16), impl.CoverTrue}, {paidCover(29, 0, 20, 8), impl.CoverTrue}, {paidCover(30, 0, 20, 8), impl.CoverZone},
		{paidCover(14, 9, 100, 4), impl.CoverZone}, {paidCover(15, 9, 100, 4), impl.CoverTrue}, {paidCover(30, 9, 100, 4), impl.CoverTrue}, {paidCover(31, 9, 100, 4), impl.CoverZone}, {paidCover(19, 1, 20, 5), impl.CoverTrue}, {paidCover(20, 1, 20, 5), impl.CoverZone}, {paidCover(4000, 0, 20, 5), impl.CoverZone},
		// A weight that a rate just reaches, and one gram more.
		{paidCover(5, 0, 21, 5), impl.CoverShort}, {paidCover(5, 0, 21, 8), impl.CoverTrue}, {paidCover(5, 0, 21, 16), impl.CoverTrue}, {paidCover(5, 0, 21, 17), impl.CoverOver}, {paidCover(5, 0, 50, 8), impl.CoverTrue}, {paidCover(5, 0, 51, 8), impl.CoverZone}, {paidCover(5, 0, 2000, 8), impl.CoverZone},
		{paidCover(5, 1, 20, 5), impl.CoverTrue}, {paidCover(5, 1, 21, 5), impl.CoverZone}, {paidCover(20, 9, 101, 4), impl.CoverZone}, {paidCover(20, 9, 1, 8), impl.CoverTrue}, {paidCover(20, 9, 1, 9), impl.CoverOver}, {paidCover(5, 0, 1, 5), impl.CoverTrue},
		// Zones without a rate, whatever is paid.
		{paidCover(5, 5, 20, 5), impl.CoverZone}, {paidCover(5, 2, 20, 1), impl.CoverZone}, {paidCover(5, 8, 20, 9999), impl.CoverZone},
	}
}

// ways are all with goodCover's postage, against exampleMails.
func ways() []handing {
	return []handing{
		// A route that ends just at Arrive, one minute after it, and long before it.
		{sentCover(0, 3, 0, 25), impl.CoverTrue}, {sentCover(0, 3, 0, 24), impl.CoverEarly}, {sentCover(0, 3, 0, 26), impl.CoverTrue}, {sentCover(0, 3, 0, 9999), impl.CoverTrue}, {sentCover(0, 2, 0, 20), impl.CoverTrue}, {sentCover(0, 2, 0, 19), impl.CoverEarly},
		{sentCover(0, 2, 1, 30), impl.CoverTrue}, {sentCover(0, 2, 1, 29), impl.CoverEarly}, {sentCover(0, 2, 1, 20), impl.CoverEarly}, {sentCover(0, 1, 0, 10), impl.CoverTrue}, {sentCover(0, 1, 0, 9), impl.CoverEarly},
		// Handed in just when the last mail leaves, and one minute later.
		{sentCover(0, 2, 5, 30), impl.CoverTrue}, {sentCover(0, 2, 6, 9999), impl.CoverRoute}, {sentCover(1, 3, 10, 25), impl.CoverTrue}, {sentCover(1, 3, 11, 25), impl.CoverRoute}, {sentCover(2, 3, 20, 25), impl.CoverTrue}, {sentCover(2, 3, 21, 25), impl.CoverRoute}, {sentCover(0, 3, 1, 25), impl.CoverRoute},
		// Offices that no route reaches, at all or from this one.
		{sentCover(0, 4, 0, 9999), impl.CoverRoute}, {sentCover(9, 0, 0, 9999), impl.CoverRoute}, {sentCover(3, 0, 0, 25), impl.CoverRoute}, {sentCover(1, 0, 0, 9999), impl.CoverRoute}, {sentCover(2, 1, 0, 9999), impl.CoverRoute},
		// Given out in the minute in which it was handed in.
		{sentCover(0, 1, 0, 0), impl.CoverEarly}, {sentCover(2, 3, 20, 20), impl.CoverEarly}, {sentCover(2, 3, 25, 25), impl.CoverRoute}, {sentCover(0, 1, 10, 10), impl.CoverRoute}, {sentCover(0, 1, 9999, 9999), impl.CoverRoute},
	}
}

// faultBy looks at each day that a rate is painted on, and at all routes.
func faultBy(rates []impl.Rate, mails []impl.Mail, x impl.Cover) int {
	cents := seasonsOf(rates, x.Zone, x.Grams)[x.Day]
	best, isThere := bestTo(allJourneys(mails, x.From, x.Leave), x.To)
	faults := []bool{true, cents == 0, x.Paid < cents, x.Paid-cents > cents, !isThere, best.minute > x.Arrive}
	first := slices.Index(faults[1:], true) + 1
	return first
}

// randomCover makes a cover whose numbers are often just at those of a rate and of mails, or beside them.
func randomCover(r *rand.Rand, rates []impl.Rate, mails []impl.Mail) impl.Cover {
	x := paidCover(r.Intn(4001), r.Intn(10), 1+r.Intn(2000), 1+r.Intn(12))
	if len(rates) > 0 && r.Intn(8) > 0 {
		rate := rates[r.Intn(len(rates))]
		days := []int{rate.From - 1, rate.From, rate.From, rate.Until, rate.Until, rate.Until + 1}
		x.Day = min(max(days[r.Intn(len(days))], 0), impl.MaxDay)
		x.Zone = rate.Zone
		x.Grams = min(max(rate.Grams-1+r.Intn(3), 1), 2000)
		cents := []int{rate.Cents - 1, rate.Cents, rate.Cents + 1, 2 * rate.Cents, 2*rate.Cents + 1}
		x.Paid = max(cents[r.Intn(len(cents))], 1)
	}
	x.From = r.Intn(10)
	if len(mails) > 0 && r.Intn(8) > 0 {
		x.From = mails[r.Intn(len(mails))].From
	}
	x.To = (x.From + 1 + r.Intn(9)) % 10
	if len(mails) > 0 && r.Intn(8) > 0 {
		if to := mails[r.Intn(len(mails))].To; to != x.From {
			x.To = to
		}
	}
	minutes := minutesAround(mails)
	a, b := minutes[r.Intn(len(minutes))], minutes[r.Intn(len(minutes))]
	x.Leave, x.Arrive = min(a, b), max(a, b)
	return x
}

// randomCovers makes at most MaxCovers covers.
func randomCovers(r *rand.Rand, rates []impl.Rate, mails []impl.Mail) []impl.Cover {
	list := []impl.Cover{}
	id := r.Intn(50)
	for range r.Intn(impl.MaxCovers + 1) {
		id += 1 + r.Intn(90)
		x := randomCover(r, rates, mails)
		x.Id = id
		list = append(list, x)
	}
	return list
}

func TestConstantsOfCovers(t *testing.T) {
	if impl.MaxCovers != 10 {
		t.Error("limit", impl.MaxCovers)
	}
	for i, fault := range []int{impl.CoverTrue, impl.CoverZone, impl.CoverShort, impl.CoverOver, impl.CoverRoute, impl.CoverEarly} {
		if fault != i {
			t.Error("fault", i, fault)
		}
	}
}

func TestIsCover(t *testing.T) {
	for _, x := range append(exampleCovers(), goodCover,
		impl.Cover{Id: 1, Day: 0, Zone: 0, Grams: 1, Paid: 1, From: 0, To: 1, Leave: 0, Arrive: 0},
		impl.Cover{Id: 999, Day: 4000, Zone: 9, Grams: 2000, Paid: 9999, From: 9, To: 8, Leave: 9999, Arrive: 9999},
		impl.Cover{Id: 999, Day: 0, Zone: 9, Grams: 1, Paid: 9999, From: 0, To: 9, Leave: 0, Arrive: 9999},
	) {
		if !impl.IsCover(x) {
			t.Error("a cover", x)
		}
	}
	for _, x := range badCovers() {
		if impl.IsCover(x) {
			t.Error("no cover", x)
		}
	}
}

func TestCoversAtTheirLimits(t *testing.T) {
	for n := -3; n <= 10003; n++ {
		id := goodCover
		id.Id = n
		for _, x := range []struct {
			name  string
			cover impl.Cover
			want  bool
		}{
			{"id", id, n >= 1 && n <= 999}, {"day", paidCover(n, 0, 20, 5), n >= 0 && n <= 4000}, {"zone", paidCover(5, n, 20, 5), n >= 0 && n <= 9},
			{"grams", paidCover(5, 0, n, 5), n >= 1 && n <= 2000}, {"paid", paidCover(5, 0, 20, n), n >= 1 && n <= 9999},
			{"from", sentCover(n, 3, 0, 25), n >= 0 && n <= 9 && n != 3}, {"to", sentCover(3, n, 0, 25), n >= 0 && n <= 9 && n != 3}, {"an office", sentCover(n, n, 0, 25), false},
			{"leave", sentCover(0, 3, n, 5000), n >= 0 && n <= 5000}, {"arrive", sentCover(0, 3, 5000, n), n >= 5000 && n <= 9999},
			{"a minute", sentCover(0, 3, n, n), n >= 0 && n <= 9999}, {"back by a minute", sentCover(0, 3, n, n-1), false},
		} {
			if got := impl.IsCover(x.cover); got != x.want {
				t.Error(x.name, n, got)
			}
		}
	}
}

func TestAreCovers(t *testing.T) {
	for _, list := range [][]impl.Cover{
		nil, {}, {goodCover}, exampleCovers(), coversWithIds(1, 999), coversWithIds(1, 2, 3), coversWithIds(990, 998, 999),
		coversWithIds(upTo(impl.MaxCovers + 1)[1:]...), coversWithIds(upTo(impl.MaxCovers)[1:]...),
		// Only the Ids must ascend.
		numbered(paidCover(9, 9, 90, 9), paidCover(5, 0, 20, 5)), numbered(sentCover(9, 8, 99, 999), sentCover(0, 1, 2, 3)), numbered(goodCover, goodCover),
	} {
		if !impl.AreCovers(list) {
			t.Error("covers", list)
		}
	}
	for i, list := range badCoverLists() {
		if impl.AreCovers(list) {
			t.Error("no covers", i, len(list))
		}
	}
}

func TestFaultOf(t *testing.T) {
	for _, x := range append(postages(), ways()...) {
		if got, ok := impl.FaultOf(exampleRates, exampleMails, x.cover); !ok || got != x.fault {
			t.Errorf("FaultOf(%v) = %d, %v, not %d", x.cover, got, ok, x.fault)
		}
	}
}

func TestFirstFaultCounts(t *testing.T) {
	for _, p := range postages() {
		for _, w := range ways() {
			x := sentCover(w.cover.From, w.cover.To, w.cover.Leave, w.cover.Arrive)
			x.Day, x.Zone, x.Grams, x.Paid = p.cover.Day, p.cover.Zone, p.cover.Grams, p.cover.Paid
			// A fault of the postage comes before one of the way.
			want := p.fault
			if want == impl.CoverTrue {
				want = w.fault
			}
			if got, ok := impl.FaultOf(exampleRates, exampleMails, x); !ok || got != want {
				t.Errorf("FaultOf(%v) = %d, %v, not %d", x, got, ok, want)
			}
		}
	}
}

func TestFaultsAtTheLimitsOfRates(t *testing.T) {
	for _, x := range []struct {
		rate  [5]int
		cover impl.Cover
		fault int
	}{
		{[5]int{9, 2000, 4000, 4000, 9999}, paidCover(4000, 9, 2000, 9999), impl.CoverTrue}, {[5]int{9, 2000, 4000, 4000, 9999}, paidCover(4000, 9, 1, 9998), impl.CoverShort}, {[5]int{9, 2000, 4000, 4000, 9999}, paidCover(3999, 9, 2000, 9999), impl.CoverZone},
		{[5]int{0, 20, 0, 9, 4999}, paidCover(5, 0, 20, 9998), impl.CoverTrue}, {[5]int{0, 20, 0, 9, 4999}, paidCover(5, 0, 20, 9999), impl.CoverOver}, {[5]int{0, 20, 0, 9, 5000}, paidCover(5, 0, 20, 9999), impl.CoverTrue},
		{[5]int{0, 1, 0, 0, 1}, paidCover(0, 0, 1, 1), impl.CoverTrue}, {[5]int{0, 1, 0, 0, 1}, paidCover(0, 0, 1, 2), impl.CoverTrue}, {[5]int{0, 1, 0, 0, 1}, paidCover(0, 0, 1, 3), impl.CoverOver}, {[5]int{0, 1, 0, 0, 1}, paidCover(1, 0, 1, 1), impl.CoverZone}, {[5]int{0, 1, 0, 0, 1}, paidCover(0, 0, 2, 1), impl.CoverZone},
	} {
		if got, ok := impl.FaultOf(ratesOf(x.rate), exampleMails, x.cover); !ok || got != x.fault {
			t.Errorf("FaultOf(%v, %v) = %d, %v, not %d", x.rate, x.cover, got, ok, x.fault)
		}
	}
}

func TestFaultsAgainstNoRatesAndNoMails(t *testing.T) {
	for _, none := range [][]impl.Rate{nil, {}} {
		for _, mails := range [][]impl.Mail{nil, {}, exampleMails, loopMails} {
			for _, x := range exampleCovers() {
				if got, ok := impl.FaultOf(none, mails, x); !ok || got != impl.CoverZone {
					t.Error("without rates", x, got, ok)
				}
			}
		}
	}
	for _, none := range [][]impl.Mail{nil, {}} {
		for _, x := range postages() {
			want := x.fault
			if want == impl.CoverTrue {
				want = impl.CoverRoute
			}
			if got, ok := impl.FaultOf(exampleRates, none, x.cover); !ok || got != want {
				t.Error("without mails", x, got, ok)
			}
		}
	}
}

func TestTrueCoversAndFaultCounts(t *testing.T) {
	full := coversWithIds(upTo(impl.MaxCovers + 1)[1:]...)
	late := coversWithIds(3, 500, 999)
	late[1].Arrive = 24
	for _, x := range []struct {
		rates  []impl.Rate
		mails  []impl.Mail
		list   []impl.Cover
		ids    []int
		counts [6]int
	}{
		{exampleRates, exampleMails, exampleCovers(), []int{2, 7}, [6]int{2, 1, 1, 1, 1, 2}}, {exampleRates, exampleMails, []impl.Cover{goodCover}, []int{7}, [6]int{1}},
		{exampleRates, exampleMails, full, upTo(impl.MaxCovers + 1)[1:], [6]int{10}}, {exampleRates, exampleMails, late, []int{3, 999}, [6]int{2, 0, 0, 0, 0, 1}},
		// Lists of none.
		{exampleRates, exampleMails, nil, nil, [6]int{}}, {exampleRates, exampleMails, []impl.Cover{}, nil, [6]int{}}, {nil, nil, nil, nil, [6]int{}},
		{nil, exampleMails, exampleCovers(), nil, [6]int{0, 8}}, {nil, nil, full, nil, [6]int{0, 10}}, {exampleRates, nil, exampleCovers(), nil, [6]int{0, 1, 1, 1, 5}}, {exampleRates, []impl.Mail{}, full, nil, [6]int{0, 0, 0, 0, 10}},
	} {
		if got, ok := impl.TrueCovers(x.rates, x.mails, x.list); !ok || !slices.Equal(got, x.ids) {
			t.Error("true", x.list, got, ok)
		}
		if got, ok := impl.FaultCounts(x.rates, x.mails, x.list); !ok || got != x.counts {
			t.Error("counts", x.list, got, ok)
		}
	}
}

// What is due is told with -1 if there is no rate.
func TestDueOn(t *testing.T) {
	for _, x := range []struct {
		cover impl.Cover
		due   int
	}{
		{goodCover, 0}, {paidCover(5, 0, 20, 4), 2}, {paidCover(5, 0, 20, 3), 4}, {paidCover(5, 0, 20, 1), 8}, {paidCover(5, 0, 20, 6), 0}, {paidCover(5, 0, 20, 10), 0}, {paidCover(5, 0, 20, 11), 0}, {paidCover(5, 0, 20, 9999), 0},
		{paidCover(9, 0, 20, 5), 0}, {paidCover(10, 0, 20, 5), 2}, {paidCover(19, 0, 20, 5), 2}, {paidCover(20, 0, 20, 5), 6}, {paidCover(29, 0, 20, 1), 14}, {paidCover(30, 0, 20, 5), -1},
		{paidCover(5, 0, 21, 5), 6}, {paidCover(5, 0, 50, 8), 0}, {paidCover(5, 0, 51, 5), -1}, {paidCover(14, 9, 100, 1), -1}, {paidCover(15, 9, 100, 1), 6}, {paidCover(5, 5, 20, 5), -1}, {paidCover(4000, 0, 20, 5), -1},
		// The way does not count.
		{sentCover(3, 0, 0, 25), 0}, {sentCover(0, 3, 0, 24), 0}, {sentCover(0, 4, 9999, 9999), 0},
	} {
		if got, ok := impl.DueOn(exampleRates, x.cover); got != max(x.due, 0) || ok != (x.due >= 0) {
			t.Errorf("DueOn(%v) = %d, %v, not %d", x.cover, got, ok, x.due)
		}
	}
	if got, ok := impl.DueOn(ratesOf([5]int{0, 20, 5, 5, 9999}), paidCover(5, 0, 20, 1)); !ok || got != 19996 {
		t.Error("most that can be due", got, ok)
	}
	for _, none := range [][]impl.Rate{nil, {}} {
		if got, ok := impl.DueOn(none, goodCover); ok || got != 0 {
			t.Error("without rates", got, ok)
		}
	}
}

// A way is told with its route and with the minutes to spare, which are -1 if it does not come in time.
func TestRouteOnAndSpareMinutes(t *testing.T) {
	ends := mailsOf([4]int{0, 0, 1, 2}, [4]int{1, 0, 3, 9}, [4]int{2, 1, 3, 9}, [4]int{8, 0, 3, 10})
	for _, x := range []struct {
		mails []impl.Mail
		cover impl.Cover
		route []int
		spare int
	}{
		// It could have been handed in no minute later.
		{exampleMails, goodCover, []int{0, 2, 3}, 0}, {exampleMails, sentCover(0, 3, 0, 9999), []int{0, 2, 3}, 0}, {exampleMails, sentCover(0, 2, 0, 20), []int{0, 2}, 0}, {exampleMails, sentCover(0, 2, 5, 30), []int{1}, 0}, {exampleMails, sentCover(1, 3, 10, 25), []int{2, 3}, 0},
		// Up to the last mail that still is in time, which need not be on its route.
		{exampleMails, sentCover(0, 2, 0, 29), []int{0, 2}, 0}, {exampleMails, sentCover(0, 2, 0, 30), []int{0, 2}, 5}, {exampleMails, sentCover(0, 2, 1, 30), []int{1}, 4}, {exampleMails, sentCover(0, 2, 4, 9999), []int{1}, 1},
		{exampleMails, sentCover(1, 3, 0, 25), []int{2, 3}, 10}, {exampleMails, sentCover(1, 3, 9, 26), []int{2, 3}, 1}, {exampleMails, sentCover(2, 3, 0, 25), []int{3}, 20}, {exampleMails, sentCover(0, 1, 0, 10), []int{0}, 0},
		{ends, sentCover(0, 3, 0, 9), []int{0, 2}, 1}, {ends, sentCover(0, 3, 1, 9), []int{1}, 0}, {ends, sentCover(0, 3, 0, 10), []int{0, 2}, 8}, {ends, sentCover(0, 3, 2, 10), []int{3}, 6}, {ends, sentCover(0, 3, 2, 9), nil, -1}, {ends, sentCover(0, 3, 0, 8), nil, -1},
		{loopMails, sentCover(0, 3, 0, 9), []int{0, 1, 2, 3, 5, 6, 7}, 2}, {loopMails, sentCover(0, 1, 0, 2), []int{0}, 0}, {loopMails, sentCover(0, 1, 0, 3), []int{0}, 2}, {loopMails, sentCover(0, 1, 1, 3), []int{2}, 1}, {loopMails, sentCover(1, 3, 2, 9), []int{3, 5, 6, 7}, 3},
		// It comes too late, or there is no route at all.
		{exampleMails, sentCover(0, 3, 0, 24), nil, -1}, {exampleMails, sentCover(0, 2, 0, 19), nil, -1}, {exampleMails, sentCover(0, 2, 1, 29), nil, -1}, {exampleMails, sentCover(0, 1, 0, 0), nil, -1}, {exampleMails, sentCover(2, 3, 20, 20), nil, -1},
		{exampleMails, sentCover(0, 3, 1, 25), nil, -1}, {exampleMails, sentCover(0, 2, 6, 9999), nil, -1}, {exampleMails, sentCover(3, 0, 0, 9999), nil, -1}, {exampleMails, sentCover(0, 4, 0, 9999), nil, -1}, {exampleMails, sentCover(1, 3, 11, 11), nil, -1},
		{nil, goodCover, nil, -1}, {[]impl.Mail{}, sentCover(0, 3, 0, 0), nil, -1},
		// The first and the last minute of all.
		{mailsOf([4]int{9998, 0, 9, 9999}), sentCover(0, 9, 0, 9999), []int{0}, 9998}, {mailsOf([4]int{9998, 0, 9, 9999}), sentCover(0, 9, 9998, 9999), []int{0}, 0}, {mailsOf([4]int{9998, 0, 9, 9999}), sentCover(0, 9, 9999, 9999), nil, -1}, {mailsOf([4]int{9998, 0, 9, 9999}), sentCover(0, 9, 0, 9998), nil, -1},
		{mailsOf([4]int{0, 9, 0, 9999}), sentCover(9, 0, 0, 9999), []int{0}, 0}, {mailsOf([4]int{0, 9, 0, 9999}), sentCover(9, 0, 1, 9999), nil, -1}, {mailsOf([4]int{0, 9, 0, 9999}), sentCover(9, 0, 0, 9998), nil, -1}, {chainOf(20), sentCover(1, 0, 0, 200), upTo(10)[1:], 110},
	} {
		if got, ok := impl.RouteOn(x.mails, x.cover); ok != (x.spare >= 0) || !slices.Equal(got, x.route) {
			t.Errorf("RouteOn(%v, %v) = %v, %v, not %v", x.mails, x.cover, got, ok, x.route)
		}
		if got, ok := impl.SpareMinutes(x.mails, x.cover); ok != (x.spare >= 0) || got != max(x.spare, 0) {
			t.Errorf("SpareMinutes(%v, %v) = %d, %v, not %d", x.mails, x.cover, got, ok, x.spare)
		}
	}
}

func TestWayDoesNotDependOnPostage(t *testing.T) {
	for _, x := range postages() {
		if got, ok := impl.RouteOn(exampleMails, x.cover); !ok || !slices.Equal(got, []int{0, 2, 3}) {
			t.Error("route", x, got, ok)
		}
		if got, ok := impl.SpareMinutes(exampleMails, x.cover); !ok || got != 0 {
			t.Error("spare", x, got, ok)
		}
		if got, ok := impl.CoversVia(exampleMails, []impl.Cover{x.cover}, 2); !ok || !slices.Equal(got, []int{7}) {
			t.Error("via", x, got, ok)
		}
	}
}

// checkVia compares the covers via each office with those that are told by offices.
func checkVia(t *testing.T, mails []impl.Mail, list []impl.Cover, want map[int][]int) {
	t.Helper()
	for office := range 10 {
		if got, ok := impl.CoversVia(mails, list, office); !ok || !slices.Equal(got, want[office]) {
			t.Errorf("CoversVia(%v, %v, %d) = %v, %v, not %v", mails, list, office, got, ok, want[office])
		}
	}
}

func TestCoversVia(t *testing.T) {
	// Cover 1 goes by two offices, and the others only begin there or end there; 3 comes too late, and 4 has no route.
	list := numbered(goodCover, sentCover(0, 2, 1, 30), sentCover(0, 3, 0, 24), sentCover(3, 0, 0, 9999), sentCover(2, 3, 20, 25), sentCover(1, 2, 0, 9999))
	checkVia(t, exampleMails, list, map[int][]int{1: {1}, 2: {1, 2, 6}, 3: {1, 5}})
	for _, x := range list[2:4] {
		checkVia(t, exampleMails, []impl.Cover{x}, nil)
	}
	// Both come back to the office where they begin, as their best routes do; 3 does not.
	checkVia(t, loopMails, numbered(sentCover(0, 3, 0, 9), sentCover(1, 3, 0, 9), sentCover(1, 2, 3, 4)), map[int][]int{0: {1, 2}, 1: {1, 2}, 2: {1, 2, 3}, 3: {1, 2}})
	// Only the best route counts, whether it is the shorter one or not.
	around := mailsOf([4]int{0, 0, 1, 2}, [4]int{1, 0, 3, 9}, [4]int{2, 1, 3, 9})
	straight := mailsOf([4]int{0, 0, 3, 9}, [4]int{1, 0, 1, 2}, [4]int{2, 1, 3, 9})
	checkVia(t, around, []impl.Cover{sentCover(0, 3, 0, 9)}, map[int][]int{1: {7}, 3: {7}})
	checkVia(t, around, []impl.Cover{sentCover(0, 3, 1, 9)}, map[int][]int{3: {7}})
	checkVia(t, straight, []impl.Cover{sentCover(0, 3, 0, 9)}, map[int][]int{3: {7}})
	checkVia(t, straight, []impl.Cover{sentCover(0, 3, 1, 9)}, map[int][]int{1: {7}, 3: {7}})
	// One minute less, and the best route comes too late.
	checkVia(t, around, []impl.Cover{sentCover(0, 3, 0, 8)}, nil)
	// Lists of none, and a full one.
	checkVia(t, exampleMails, nil, nil)
	checkVia(t, nil, nil, nil)
	checkVia(t, nil, list, nil)
	checkVia(t, []impl.Mail{}, []impl.Cover{goodCover}, nil)
	ids := upTo(impl.MaxCovers + 1)[1:]
	checkVia(t, exampleMails, coversWithIds(ids...), map[int][]int{1: ids, 2: ids, 3: ids})
	// Offices 0 and 9, with the greatest Id.
	last := sentCover(0, 9, 0, 90)
	last.Id = 999
	checkVia(t, chainOf(20), []impl.Cover{sentCover(9, 0, 0, 100), last}, map[int][]int{0: {7}, 1: {999}, 2: {999}, 3: {999}, 4: {999}, 5: {999}, 6: {999}, 7: {999}, 8: {999}, 9: {999}})
}

func TestFaultText(t *testing.T) {
	for fault, want := range []string{"true", "zone", "short", "over", "route", "early"} {
		if got, ok := impl.FaultText(fault); !ok || got != want {
			t.Error("text", fault, got, ok)
		}
	}
	for _, n := range append([]int{-6, -5, -2, -1, 6, 7, 10, 12}, farInts...) {
		if got, ok := impl.FaultText(n); ok || got != "" {
			t.Error("text of none", n, got, ok)
		}
	}
}

// checkTrue checks what promise 10 tells of a cover without a fault.
func checkTrue(t *testing.T, rates []impl.Rate, mails []impl.Mail, x impl.Cover) {
	t.Helper()
	route, ok := impl.RouteOn(mails, x)
	office, end, isRoute := impl.EndOfRoute(mails, x.From, x.Leave, route)
	if !ok || !isRoute || office != x.To || end > x.Arrive || !isRouteOf(mails, x.From, x.Leave, route) {
		t.Fatal("a true cover without a route", mails, x, route, ok)
	}
	if _, ok := impl.SpareMinutes(mails, x); !ok {
		t.Fatal("a true cover that is late", mails, x)
	}
	cents, ok := impl.RateFor(rates, x.Day, x.Zone, x.Grams)
	if !ok || x.Paid < cents || x.Paid > 2*cents {
		t.Fatal("a true cover that is not paid", rates, x, cents, ok)
	}
	if due, ok := impl.DueOn(rates, x); !ok || due != 0 {
		t.Fatal("something is due on a true cover", rates, x, due, ok)
	}
}

func TestPromise10CoverWithoutFaultHasRouteAndIsPaid(t *testing.T) {
	r := rand.New(rand.NewSource(10))
	found := 0
	for range 2000 {
		rates, mails := randomRates(r), randomMails(r)
		list := randomCovers(r, rates, mails)
		ids, ok := impl.TrueCovers(rates, mails, list)
		if !ok {
			t.Fatal("covers", rates, mails, list)
		}
		counts, ok := impl.FaultCounts(rates, mails, list)
		if !ok || counts[impl.CoverTrue] != len(ids) {
			t.Fatal("counts", rates, mails, list, counts, ok)
		}
		for _, x := range list {
			fault, ok := impl.FaultOf(rates, mails, x)
			if !ok || (fault == impl.CoverTrue) != slices.Contains(ids, x.Id) {
				t.Fatal("fault", rates, mails, x, fault, ok, ids)
			}
			if fault == impl.CoverTrue {
				checkTrue(t, rates, mails, x)
				found++
			}
		}
	}
	if found < 200 {
		t.Error("few true covers", found)
	}
}

// spareBy hands a cover in later by a minute, again and again, as long as one of all routes is in time.
func spareBy(mails []impl.Mail, x impl.Cover) int {
	leaves := []int{}
	for _, j := range allJourneys(mails, x.From, x.Leave) {
		if j.office == x.To && j.minute <= x.Arrive {
			leaves = append(leaves, mails[j.route[0]].Leave)
		}
	}
	spare := -1
	for slices.ContainsFunc(leaves, func(leave int) bool { return x.Leave+spare+1 <= leave }) {
		spare++
	}
	return spare
}

// checkCover compares what is told of a cover with days, all routes and all minutes.
func checkCover(t *testing.T, rates []impl.Rate, mails []impl.Mail, x impl.Cover) (fault, spare int) {
	t.Helper()
	fault, spare = faultBy(rates, mails, x), spareBy(mails, x)
	if got, ok := impl.FaultOf(rates, mails, x); !ok || got != fault {
		t.Fatalf("FaultOf(%v, %v, %v) = %d, %v, not %d", rates, mails, x, got, ok, fault)
	}
	cents := seasonsOf(rates, x.Zone, x.Grams)[x.Day]
	due := 0
	if cents > x.Paid {
		due = cents - x.Paid + cents - x.Paid
	}
	if got, ok := impl.DueOn(rates, x); ok != (cents > 0) || got != due {
		t.Fatalf("DueOn(%v, %v) = %d, %v, not %d", rates, x, got, ok, due)
	}
	if got, ok := impl.SpareMinutes(mails, x); ok != (spare >= 0) || got != max(spare, 0) {
		t.Fatalf("SpareMinutes(%v, %v) = %d, %v, not %d", mails, x, got, ok, spare)
	}
	best, isThere := bestTo(allJourneys(mails, x.From, x.Leave), x.To)
	if isThere = isThere && best.minute <= x.Arrive; !isThere {
		best.route = nil
	}
	if got, ok := impl.RouteOn(mails, x); ok != isThere || !slices.Equal(got, best.route) {
		t.Fatalf("RouteOn(%v, %v) = %v, %v, not %v", mails, x, got, ok, best.route)
	}
	if isThere != (spare >= 0) {
		t.Fatal("a route in time, or minutes to spare, but not both", mails, x)
	}
	return fault, spare
}

func TestRandomCovers(t *testing.T) {
	r := rand.New(rand.NewSource(1010))
	seen := [6]int{}
	spared := 0
	for range 600 {
		rates, mails := randomRates(r), randomMails(r)
		list := randomCovers(r, rates, mails)
		if !impl.AreCovers(list) {
			t.Fatal("covers", list)
		}
		counts, trueIds, via := [6]int{}, []int{}, map[int][]int{}
		for _, x := range list {
			fault, spare := checkCover(t, rates, mails, x)
			counts[fault]++
			seen[fault]++
			if fault == 0 {
				trueIds = append(trueIds, x.Id)
			}
			if spare > 0 {
				spared++
			}
			route, _ := impl.RouteOn(mails, x)
			arrivals := []int{}
			for _, index := range route {
				arrivals = append(arrivals, mails[index].To)
			}
			slices.Sort(arrivals)
			for _, office := range slices.Compact(arrivals) {
				via[office] = append(via[office], x.Id)
			}
		}
		if got, ok := impl.FaultCounts(rates, mails, list); !ok || got != counts {
			t.Fatal("counts", rates, mails, list, got, ok, counts)
		}
		if got, ok := impl.TrueCovers(rates, mails, list); !ok || !slices.Equal(got, trueIds) {
			t.Fatal("true", rates, mails, list, got, ok, trueIds)
		}
		checkVia(t, mails, list, via)
	}
	if slices.Min(seen[:]) < 100 || spared < 100 {
		t.Error("few covers with a fault, or few with minutes to spare", seen, spared)
	}
}

// checkNoFault checks that no fault of a cover is told.
func checkNoFault(t *testing.T, rates []impl.Rate, mails []impl.Mail, x impl.Cover) {
	t.Helper()
	if got, ok := impl.FaultOf(rates, mails, x); ok || got != 0 {
		t.Error("FaultOf", len(rates), len(mails), x, got, ok)
	}
}

// checkNoCounts checks that no faults of covers are told.
func checkNoCounts(t *testing.T, rates []impl.Rate, mails []impl.Mail, list []impl.Cover) {
	t.Helper()
	if got, ok := impl.TrueCovers(rates, mails, list); ok || len(got) != 0 {
		t.Error("TrueCovers", len(rates), len(mails), len(list), got, ok)
	}
	if got, ok := impl.FaultCounts(rates, mails, list); ok || got != [6]int{} {
		t.Error("FaultCounts", len(rates), len(mails), len(list), got, ok)
	}
}

// checkNoDue checks that nothing is told of what is due on a cover.
func checkNoDue(t *testing.T, rates []impl.Rate, x impl.Cover) {
	t.Helper()
	if got, ok := impl.DueOn(rates, x); ok || got != 0 {
		t.Error("DueOn", len(rates), x, got, ok)
	}
}

// checkNoWay checks that nothing is told of the way of a cover.
func checkNoWay(t *testing.T, mails []impl.Mail, x impl.Cover) {
	t.Helper()
	if got, ok := impl.RouteOn(mails, x); ok || len(got) != 0 {
		t.Error("RouteOn", len(mails), x, got, ok)
	}
	if got, ok := impl.SpareMinutes(mails, x); ok || got != 0 {
		t.Error("SpareMinutes", len(mails), x, got, ok)
	}
}

// checkNoVia checks that no covers via an office are told.
func checkNoVia(t *testing.T, mails []impl.Mail, list []impl.Cover, office int) {
	t.Helper()
	if got, ok := impl.CoversVia(mails, list, office); ok || len(got) != 0 {
		t.Error("CoversVia", len(mails), len(list), office, got, ok)
	}
}

func TestCoversThatAreNone(t *testing.T) {
	for _, x := range badCovers() {
		for _, rates := range [][]impl.Rate{nil, exampleRates} {
			checkNoDue(t, rates, x)
			for _, mails := range [][]impl.Mail{nil, exampleMails} {
				checkNoFault(t, rates, mails, x)
			}
		}
		checkNoWay(t, nil, x)
		checkNoWay(t, exampleMails, x)
	}
	for _, list := range badCoverLists() {
		for _, mails := range [][]impl.Mail{nil, exampleMails} {
			checkNoCounts(t, nil, mails, list)
			checkNoCounts(t, exampleRates, mails, list)
			checkNoVia(t, mails, list, 3)
			checkNoVia(t, mails, list, 9)
		}
	}
}

func TestCoversAgainstRatesThatAreNone(t *testing.T) {
	for _, rates := range badRateLists() {
		for _, mails := range [][]impl.Mail{nil, exampleMails} {
			for _, x := range []impl.Cover{goodCover, paidCover(5, 5, 20, 5), paidCover(10, 2, 20, 5), sentCover(3, 0, 0, 25)} {
				checkNoFault(t, rates, mails, x)
				checkNoDue(t, rates, x)
			}
			for _, list := range [][]impl.Cover{nil, {}, {goodCover}, exampleCovers()} {
				checkNoCounts(t, rates, mails, list)
			}
		}
	}
}

func TestCoversAgainstMailsThatAreNone(t *testing.T) {
	for _, mails := range badTimetables() {
		for _, rates := range [][]impl.Rate{nil, exampleRates} {
			for _, x := range []impl.Cover{goodCover, paidCover(5, 5, 20, 5), paidCover(5, 0, 20, 4), sentCover(0, 2, 0, 30)} {
				checkNoFault(t, rates, mails, x)
			}
			for _, list := range [][]impl.Cover{nil, {}, {goodCover}, exampleCovers()} {
				checkNoCounts(t, rates, mails, list)
			}
		}
		for _, x := range []impl.Cover{goodCover, sentCover(0, 2, 0, 30), sentCover(0, 1, 0, 9999), sentCover(2, 3, 20, 20)} {
			checkNoWay(t, mails, x)
		}
		for _, list := range [][]impl.Cover{nil, {}, {goodCover}, numbered(sentCover(0, 2, 0, 30), sentCover(0, 1, 0, 9999))} {
			checkNoVia(t, mails, list, 2)
			checkNoVia(t, mails, list, 1)
		}
	}
	for _, rates := range badRateLists()[:8] {
		for _, mails := range badTimetables()[:8] {
			checkNoFault(t, rates, mails, goodCover)
			checkNoCounts(t, rates, mails, nil)
			checkNoCounts(t, rates, mails, exampleCovers())
		}
	}
}

func TestCoversViaOfficesThatAreNone(t *testing.T) {
	for _, n := range farOffices {
		for _, mails := range [][]impl.Mail{nil, exampleMails} {
			checkNoVia(t, mails, nil, n)
			checkNoVia(t, mails, []impl.Cover{goodCover}, n)
			checkNoVia(t, mails, exampleCovers(), n)
		}
	}
}

func TestCoversChangeNoArgument(t *testing.T) {
	// Behind each list there is room that is neither read nor written.
	rateRoom := append(slices.Clone(exampleRates), impl.Rate{Zone: 9, Grams: 200, From: 0, Until: 9, Cents: 5}, impl.Rate{Zone: -1})
	mailRoom := append(slices.Clone(exampleMails), impl.Mail{Leave: 30, From: 2, To: 9, Arrive: 40}, impl.Mail{Leave: -1})
	coverRoom := append(exampleCovers(), coversWithIds(9, 8)...)
	keptRates, keptMails, keptCovers := slices.Clone(rateRoom), slices.Clone(mailRoom), slices.Clone(coverRoom)
	rates, mails, list := rateRoom[:len(exampleRates)], mailRoom[:len(exampleMails)], coverRoom[:8]
	if got, ok := impl.FaultOf(rates, mails, paidCover(5, 9, 200, 5)); !ok || got != impl.CoverZone {
		t.Error("a rate from behind the list", got, ok)
	}
	if got, ok := impl.FaultOf(rates, mails, sentCover(0, 9, 0, 9999)); !ok || got != impl.CoverRoute {
		t.Error("a mail from behind the list", got, ok)
	}
	if got, ok := impl.TrueCovers(rates, mails, list); !ok || !slices.Equal(got, []int{2, 7}) {
		t.Error("a cover from behind the list", got, ok)
	}
	for _, x := range coverRoom {
		impl.IsCover(x)
		impl.FaultOf(rates, mails, x)
		impl.DueOn(rates, x)
		impl.RouteOn(mails, x)
		impl.SpareMinutes(mails, x)
	}
	for _, l := range [][]impl.Cover{list, coverRoom} {
		impl.AreCovers(l)
		impl.TrueCovers(rates, mails, l)
		impl.TrueCovers(rateRoom, mailRoom, l)
		impl.FaultCounts(rates, mails, l)
		impl.CoversVia(mails, l, 2)
	}
	if !slices.Equal(rateRoom, keptRates) || !slices.Equal(mailRoom, keptMails) || !slices.Equal(coverRoom, keptCovers) {
		t.Error("an argument was changed", rateRoom, mailRoom, coverRoom)
	}
}

func TestResultsOfCoversAreNew(t *testing.T) {
	list := coversWithIds(3, 4, 5)
	for range 2 {
		ids, _ := impl.TrueCovers(exampleRates, exampleMails, list)
		via, _ := impl.CoversVia(exampleMails, list, 1)
		route, _ := impl.RouteOn(exampleMails, goodCover)
		if !slices.Equal(ids, []int{3, 4, 5}) || !slices.Equal(via, []int{3, 4, 5}) || !slices.Equal(route, []int{0, 2, 3}) {
			t.Error("a changed result changed what follows", ids, via, route)
		}
		for i := range 3 {
			ids[i], via[i], route[i] = 77, 78, 79
		}
	}
	if !slices.Equal(list, coversWithIds(3, 4, 5)) {
		t.Error("a changed result changed an argument", list)
	}
}
