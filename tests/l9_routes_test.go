package tests

import (
	"cmp"
	"math/rand"
	"slices"
	"testing"

	"loop.example/g01062/impl"
)

var goodMail = impl.Mail{Leave: 5, From: 0, To: 2, Arrive: 30}

// exampleMails has a Mail that leaves just when one arrives, twice.
var exampleMails = mailsOf([4]int{0, 0, 1, 10}, [4]int{5, 0, 2, 30}, [4]int{10, 1, 2, 20}, [4]int{20, 2, 3, 25})

// loopMails has routes that come by their own office, and by another one twice.
var loopMails = mailsOf([4]int{0, 0, 1, 1}, [4]int{1, 1, 0, 2}, [4]int{2, 0, 1, 3}, [4]int{3, 1, 2, 4}, [4]int{3, 1, 3, 9}, [4]int{4, 2, 1, 5}, [4]int{5, 1, 2, 6}, [4]int{6, 2, 3, 9})

// farOffices are none.
var farOffices = append([]int{-10, -9, -2, -1, 10, 11, 19, 20, 99}, farInts...)

// farMinutes are none.
var farMinutes = append([]int{-9999, -10, -2, -1, 10000, 10001, 19998, 99999}, farInts...)

// mailsOf makes mails of Leave, From, To and Arrive.
func mailsOf(fields ...[4]int) []impl.Mail {
	list := []impl.Mail{}
	for _, x := range fields {
		list = append(list, impl.Mail{Leave: x[0], From: x[1], To: x[2], Arrive: x[3]})
	}
	return list
}

// chainOf makes as many mails as are told, each of which leaves just when and where the one before arrives.
func chainOf(count int) []impl.Mail {
	list := []impl.Mail{}
	for i := range count {
		list = append(list, impl.Mail{Leave: 10 * i, From: i % 10, To: (i + 1) % 10, Arrive: 10*i + 10})
	}
	return list
}

// upTo returns the numbers from 0 on, as many as are told.
func upTo(count int) []int {
	list := []int{}
	for i := range count {
		list = append(list, i)
	}
	return list
}

// badMails are not valid, each in one field, or in two together.
func badMails() []impl.Mail {
	list := mailsOf([4]int{}, [4]int{5, 0, 0, 30}, [4]int{5, 2, 0, 0}, [4]int{0, 0, 0, 1})
	for office := range 10 {
		list = append(list, impl.Mail{Leave: 5, From: office, To: office, Arrive: 30})
	}
	for _, n := range farOffices {
		list = append(list, mailsOf([4]int{5, n, 2, 30}, [4]int{5, 2, n, 30}, [4]int{5, n, n, 30})...)
	}
	for _, n := range farMinutes {
		list = append(list, mailsOf([4]int{n, 0, 2, 30}, [4]int{5, 0, 2, n}, [4]int{n, 0, 2, n})...)
	}
	for _, x := range [][2]int{{0, 0}, {1, 0}, {5, 5}, {6, 5}, {30, 5}, {9999, 9999}, {9999, 9998}, {9999, 0}, {9999, 10000}, {-1, 0}} {
		list = append(list, impl.Mail{Leave: x[0], From: 0, To: 2, Arrive: x[1]})
	}
	return list
}

// badTimetables are none.
func badTimetables() [][]impl.Mail {
	lists := [][]impl.Mail{
		chainOf(impl.MaxMails + 1), chainOf(100), make([]impl.Mail, 1), make([]impl.Mail, 1000000),
		// The same mail twice, behind each other, behind another one, and with others between.
		{goodMail, goodMail},
		mailsOf([4]int{0, 0, 1, 10}, [4]int{5, 0, 2, 30}, [4]int{5, 0, 2, 30}),
		mailsOf([4]int{5, 0, 2, 30}, [4]int{6, 0, 2, 30}, [4]int{5, 0, 2, 30}),
		// Out of order by Leave, whatever the others are.
		mailsOf([4]int{6, 0, 2, 30}, [4]int{5, 0, 2, 30}),
		mailsOf([4]int{6, 0, 1, 30}, [4]int{5, 3, 2, 40}),
		mailsOf([4]int{0, 0, 2, 30}, [4]int{9, 0, 2, 30}, [4]int{8, 0, 2, 30}),
		// By From, with the same Leave.
		mailsOf([4]int{5, 1, 2, 30}, [4]int{5, 0, 2, 30}),
		mailsOf([4]int{5, 1, 0, 30}, [4]int{5, 0, 2, 40}),
		// By To, with the same Leave and From.
		mailsOf([4]int{5, 0, 2, 30}, [4]int{5, 0, 1, 30}),
		mailsOf([4]int{5, 0, 2, 30}, [4]int{5, 0, 1, 40}),
		// By Arrive alone.
		mailsOf([4]int{5, 0, 2, 31}, [4]int{5, 0, 2, 30}),
		mailsOf([4]int{5, 0, 2, 30}, [4]int{5, 0, 2, 40}, [4]int{5, 0, 2, 39}),
	}
	for _, x := range badMails() {
		lists = append(lists, []impl.Mail{x}, []impl.Mail{{Leave: 0, From: 0, To: 1, Arrive: 1}, x}, []impl.Mail{x, {Leave: 9998, From: 9, To: 8, Arrive: 9999}})
	}
	return lists
}

// randomMails makes a timetable of at most MaxMails mails between few offices, at minutes near to each other.
func randomMails(r *rand.Rand) []impl.Mail {
	offices := [][]int{{0, 1}, {0, 1, 2}, {0, 4, 7, 9}, {0, 1, 2, 3, 4, 5, 6, 7, 8, 9}}[r.Intn(4)]
	length := 10 + r.Intn(25)
	first := []int{0, 0, 100, 9999 - length}[r.Intn(4)]
	list := []impl.Mail{}
	for range r.Intn(30) {
		from := r.Intn(len(offices))
		to := (from + 1 + r.Intn(len(offices)-1)) % len(offices)
		leave := r.Intn(length)
		arrive := min(leave+1+r.Intn(1+r.Intn(9)), length)
		list = append(list, impl.Mail{Leave: first + leave, From: offices[from], To: offices[to], Arrive: first + arrive})
	}
	slices.SortFunc(list, func(a, b impl.Mail) int {
		return slices.Compare([]int{a.Leave, a.From, a.To, a.Arrive}, []int{b.Leave, b.From, b.To, b.Arrive})
	})
	list = slices.Compact(list)
	return list[:min(len(list), impl.MaxMails)]
}

// minutesAround returns all minutes at which a mail leaves or arrives, the ones beside them, and the first and the last one of all.
func minutesAround(list []impl.Mail) []int {
	minutes := []int{0, 9999}
	for _, x := range list {
		for _, n := range []int{x.Leave, x.Arrive} {
			minutes = append(minutes, max(n-1, 0), n, min(n+1, 9999))
		}
	}
	slices.Sort(minutes)
	return slices.Compact(minutes)
}

// A journey is a route with the office and the minute at which it ends.
type journey struct {
	route  []int
	office int
	minute int
}

// allJourneys returns all routes from an office at a minute; each one is tried with every mail behind it.
func allJourneys(list []impl.Mail, from, minute int) []journey {
	all := []journey{{office: from, minute: minute}}
	for k := 0; k < len(all); k++ {
		for i, x := range list {
			if x.From == all[k].office && x.Leave >= all[k].minute {
				all = append(all, journey{append(slices.Clone(all[k].route), i), x.To, x.Arrive})
			}
		}
	}
	return all
}

// bestTo returns the smallest one of the earliest of all journeys to an office.
func bestTo(all []journey, to int) (journey, bool) {
	there := slices.DeleteFunc(slices.Clone(all), func(j journey) bool { return j.office != to })
	if len(there) == 0 {
		return journey{}, false
	}
	return slices.MinFunc(there, func(a, b journey) int {
		return cmp.Or(cmp.Compare(a.minute, b.minute), slices.Compare(a.route, b.route))
	}), true
}

// isRouteOf checks each number of a route with the mails beside it.
func isRouteOf(list []impl.Mail, from, minute int, route []int) bool {
	for k, index := range route {
		if index < 0 || index >= len(list) {
			return false
		}
		office, earliest := from, minute
		if k > 0 {
			office, earliest = list[route[k-1]].To, list[route[k-1]].Arrive
		}
		if list[index].From != office || list[index].Leave < earliest {
			return false
		}
	}
	return true
}

func TestConstantsOfRoutes(t *testing.T) {
	if impl.MaxMails != 20 || impl.Offices != 10 {
		t.Error("limits", impl.MaxMails, impl.Offices)
	}
}

func TestIsTimetable(t *testing.T) {
	full := mailsOf([4]int{0, 0, 1, 1}, [4]int{0, 0, 1, 2}, [4]int{0, 0, 2, 1}, [4]int{0, 1, 0, 1}, [4]int{1, 0, 1, 2})
	for _, l := range [][]impl.Mail{
		nil, {}, {goodMail}, exampleMails, loopMails, full, chainOf(impl.MaxMails), chainOf(impl.MaxMails - 1),
		mailsOf([4]int{0, 0, 9, 9999}), mailsOf([4]int{9998, 9, 0, 9999}), mailsOf([4]int{0, 0, 1, 1}),
		// In order by each of the fields, though a later one is out of order.
		mailsOf([4]int{5, 3, 2, 40}, [4]int{6, 0, 1, 30}), mailsOf([4]int{5, 0, 2, 40}, [4]int{5, 1, 0, 30}),
		mailsOf([4]int{5, 0, 1, 40}, [4]int{5, 0, 2, 30}), mailsOf([4]int{5, 0, 2, 30}, [4]int{5, 0, 2, 31}),
	} {
		if !impl.IsTimetable(l) {
			t.Error("a timetable", l)
		}
	}
	for i, l := range badTimetables() {
		if impl.IsTimetable(l) {
			t.Error("no timetable", i, len(l))
		}
	}
}

func TestMailsAtTheirLimits(t *testing.T) {
	for n := -3; n <= 10003; n++ {
		for _, x := range []struct {
			name string
			mail [4]int
			want bool
		}{
			{"leave", [4]int{n, 0, 2, 5000}, n >= 0 && n < 5000}, {"arrive", [4]int{5000, 0, 2, n}, n > 5000 && n <= 9999},
			{"from", [4]int{5, n, 2, 30}, n >= 0 && n <= 9 && n != 2}, {"to", [4]int{5, 2, n, 30}, n >= 0 && n <= 9 && n != 2},
			{"a minute", [4]int{n, 0, 2, n + 1}, n >= 0 && n <= 9998}, {"no minute", [4]int{n, 0, 2, n}, false},
		} {
			if got := impl.IsTimetable(mailsOf(x.mail)); got != x.want {
				t.Error(x.name, x.mail, got)
			}
		}
	}
}

func TestTwoMails(t *testing.T) {
	all := [][]int{}
	for leave := range 3 {
		for from := range 3 {
			for to := range 3 {
				for arrive := leave + 1; arrive < 4 && from != to; arrive++ {
					all = append(all, []int{leave, from, to, arrive})
				}
			}
		}
	}
	for _, a := range all {
		for _, b := range all {
			if got := impl.IsTimetable(mailsOf([4]int(a), [4]int(b))); got != (slices.Compare(a, b) < 0) {
				t.Error("two", a, b, got)
			}
		}
	}
}

// A told route is from an office at a minute, with the end that it has if it is one.
type toldRoute struct {
	list         []impl.Mail
	from, minute int
	route        []int
	office, end  int
	waits        int
	isRoute      bool
}

func routesTold() []toldRoute {
	late := mailsOf([4]int{0, 0, 1, 10}, [4]int{9, 1, 2, 20}, [4]int{10, 1, 2, 21}, [4]int{9998, 2, 0, 9999})
	return []toldRoute{
		{list: exampleMails, route: []int{0, 2, 3}, office: 3, end: 25, isRoute: true},
		{list: exampleMails, route: []int{0, 2}, office: 2, end: 20, isRoute: true},
		{list: exampleMails, route: []int{1}, office: 2, end: 30, waits: 5, isRoute: true},
		{list: exampleMails, from: 1, minute: 1, route: []int{2, 3}, office: 3, end: 25, waits: 9, isRoute: true},
		{list: exampleMails, from: 2, minute: 0, route: []int{3}, office: 3, end: 25, waits: 20, isRoute: true},
		// No mail: it ends where and when it begins.
		{list: exampleMails, office: 0, isRoute: true}, {list: exampleMails, from: 9, minute: 9999, route: []int{}, office: 9, end: 9999, isRoute: true},
		{from: 3, minute: 7, office: 3, end: 7, isRoute: true}, {list: []impl.Mail{}, from: 3, minute: 7, route: []int{}, office: 3, end: 7, isRoute: true},
		// The first mail leaves just at the minute, and one minute before it.
		{list: exampleMails, minute: 5, route: []int{1}, office: 2, end: 30, isRoute: true}, {list: exampleMails, minute: 6, route: []int{1}},
		{list: exampleMails, from: 2, minute: 20, route: []int{3}, office: 3, end: 25, isRoute: true}, {list: exampleMails, from: 2, minute: 21, route: []int{3}},
		{list: exampleMails, minute: 1, route: []int{0}}, {list: exampleMails, minute: 1, route: []int{0, 2, 3}},
		// A mail leaves just when one arrives, one minute before that, and one minute after.
		{list: late, route: []int{0, 2}, office: 2, end: 21, isRoute: true}, {list: late, route: []int{0, 1}},
		{list: late, from: 1, minute: 9, route: []int{1}, office: 2, end: 20, isRoute: true}, {list: late, from: 1, minute: 10, route: []int{1}},
		{list: late, route: []int{0, 2, 3}, office: 0, end: 9999, waits: 9977, isRoute: true},
		{list: mailsOf([4]int{0, 0, 1, 10}, [4]int{11, 1, 2, 20}), route: []int{0, 1}, office: 2, end: 20, waits: 1, isRoute: true},
		{list: exampleMails, route: []int{1, 3}},
		// From another office, or not from where the one before arrives.
		{list: exampleMails, from: 1, route: []int{0}}, {list: exampleMails, from: 2, route: []int{0, 2}}, {list: exampleMails, from: 9, route: []int{3}},
		{list: exampleMails, route: []int{0, 3}}, {list: exampleMails, route: []int{2}}, {list: exampleMails, route: []int{0, 1}},
		// Numbers that are no indices.
		{list: exampleMails, route: []int{-1}}, {list: exampleMails, route: []int{4}}, {list: exampleMails, route: []int{0, 2, 3, 4}}, {list: exampleMails, route: []int{0, -1}}, {list: exampleMails, route: []int{5, 0}},
		{route: []int{0}}, {list: []impl.Mail{}, route: []int{0}}, {list: chainOf(impl.MaxMails), route: []int{20}},
		// Not in ascending order, and a mail that is named twice.
		{list: exampleMails, route: []int{2, 0}}, {list: exampleMails, from: 1, route: []int{3, 2}}, {list: exampleMails, route: []int{3, 2, 0}}, {list: loopMails, route: []int{2, 1}},
		{list: exampleMails, route: []int{0, 0}}, {list: exampleMails, route: []int{0, 2, 2}}, {list: exampleMails, route: []int{0, 2, 0}}, {list: loopMails, route: []int{0, 1, 0}},
		// By its own office, and by an office twice.
		{list: loopMails, route: []int{0, 1}, office: 0, end: 2, isRoute: true}, {list: loopMails, route: []int{0, 1, 2, 3, 5, 6, 7}, office: 3, end: 9, isRoute: true},
		{list: loopMails, route: []int{2, 3, 5}, office: 1, end: 5, waits: 2, isRoute: true}, {list: loopMails, from: 1, route: []int{1, 2, 4}, office: 3, end: 9, waits: 1, isRoute: true},
		// MaxMails numbers.
		{list: chainOf(20), route: upTo(20), office: 0, end: 200, isRoute: true}, {list: chainOf(20), route: upTo(19), office: 9, end: 190, isRoute: true},
		{list: chainOf(20), minute: 1, route: upTo(20)}, {list: chainOf(19), route: upTo(20)}, {list: exampleMails, route: make([]int, 20)},
		{list: chainOf(20), from: 1, route: upTo(20)[1:], office: 0, end: 200, waits: 10, isRoute: true},
	}
}

func checkRoute(t *testing.T, x toldRoute) {
	t.Helper()
	if got, ok := impl.IsRoute(x.list, x.from, x.minute, x.route); !ok || got != x.isRoute {
		t.Errorf("IsRoute(%v, %d, %d, %v) = %v, %v", x.list, x.from, x.minute, x.route, got, ok)
	}
	if office, end, ok := impl.EndOfRoute(x.list, x.from, x.minute, x.route); ok != x.isRoute || office != x.office || end != x.end {
		t.Errorf("EndOfRoute(%v, %d, %d, %v) = %d, %d, %v", x.list, x.from, x.minute, x.route, office, end, ok)
	}
	if waits, ok := impl.WaitsOn(x.list, x.from, x.minute, x.route); ok != x.isRoute || waits != x.waits {
		t.Errorf("WaitsOn(%v, %d, %d, %v) = %d, %v", x.list, x.from, x.minute, x.route, waits, ok)
	}
}

func TestRoutes(t *testing.T) {
	for _, x := range routesTold() {
		checkRoute(t, x)
	}
	for _, n := range farInts {
		checkRoute(t, toldRoute{list: exampleMails, route: []int{n}})
		checkRoute(t, toldRoute{list: exampleMails, route: []int{0, n, 3}})
	}
}

func TestRoutesOfMoreThanMaxMailsNumbers(t *testing.T) {
	for _, route := range [][]int{upTo(21), upTo(22), make([]int, 21), append(upTo(20), 19), append(upTo(20), -1), make([]int, 1000000)} {
		for _, list := range [][]impl.Mail{nil, exampleMails, chainOf(20)} {
			if got, ok := impl.IsRoute(list, 0, 0, route); got || ok {
				t.Error("IsRoute", len(list), len(route), got, ok)
			}
			if office, end, ok := impl.EndOfRoute(list, 0, 0, route); office != 0 || end != 0 || ok {
				t.Error("EndOfRoute", len(list), len(route), office, end, ok)
			}
			if waits, ok := impl.WaitsOn(list, 0, 0, route); waits != 0 || ok {
				t.Error("WaitsOn", len(list), len(route), waits, ok)
			}
		}
	}
}

func TestRandomRoutes(t *testing.T) {
	r := rand.New(rand.NewSource(9))
	routes := 0
	for range 300 {
		list := randomMails(r)
		minutes := minutesAround(list)
		for range 200 {
			from, minute := r.Intn(10), minutes[r.Intn(len(minutes))]
			route := []int{}
			for range r.Intn(4) {
				route = append(route, r.Intn(len(list)+2)-1)
			}
			if r.Intn(2) == 0 {
				slices.Sort(route)
			}
			if len(route) > 0 && len(list) > 0 && r.Intn(3) > 0 {
				from = list[max(min(route[0], len(list)-1), 0)].From
			}
			x := toldRoute{list: list, from: from, minute: minute, route: route, isRoute: isRouteOf(list, from, minute, route)}
			if x.isRoute {
				x.office, x.end = from, minute
				for _, index := range route {
					x.waits += list[index].Leave - x.end
					x.office, x.end = list[index].To, list[index].Arrive
				}
			}
			if x.isRoute && len(route) > 1 {
				routes++
			}
			checkRoute(t, x)
		}
	}
	if routes < 100 {
		t.Error("few routes of two mails and more", routes)
	}
}

// A best route is told with the minute at which it ends, which is -1 if there is none.
func TestBestRoute(t *testing.T) {
	late := mailsOf([4]int{0, 0, 1, 10}, [4]int{9, 1, 2, 20}, [4]int{10, 1, 2, 21})
	// Three routes of the same end; two of them begin with the same number.
	ends := mailsOf([4]int{0, 0, 1, 2}, [4]int{1, 0, 3, 9}, [4]int{2, 1, 2, 4}, [4]int{2, 1, 3, 9}, [4]int{4, 2, 3, 9})
	// The same, without the smallest one, and with a smaller one that ends a minute too late.
	fewer := slices.Delete(slices.Clone(ends), 2, 3)
	tooLate := mailsOf([4]int{0, 0, 1, 2}, [4]int{0, 0, 3, 10}, [4]int{1, 0, 3, 9}, [4]int{2, 1, 3, 10})
	// A route that has come to its office goes on, and comes back.
	around := mailsOf([4]int{0, 0, 1, 5}, [4]int{5, 1, 0, 6}, [4]int{6, 0, 1, 9}, [4]int{9, 1, 2, 12}, [4]int{10, 0, 2, 12})
	for _, x := range []struct {
		list             []impl.Mail
		from, minute, to int
		end              int
		route            []int
	}{
		{exampleMails, 0, 0, 3, 25, []int{0, 2, 3}}, {exampleMails, 0, 0, 2, 20, []int{0, 2}}, {exampleMails, 0, 0, 1, 10, []int{0}},
		{exampleMails, 0, 1, 2, 30, []int{1}}, {exampleMails, 0, 5, 2, 30, []int{1}}, {exampleMails, 0, 6, 2, -1, nil}, {exampleMails, 0, 1, 1, -1, nil}, {exampleMails, 0, 1, 3, -1, nil},
		{exampleMails, 1, 0, 3, 25, []int{2, 3}}, {exampleMails, 1, 10, 3, 25, []int{2, 3}}, {exampleMails, 1, 11, 3, -1, nil}, {exampleMails, 2, 20, 3, 25, []int{3}}, {exampleMails, 2, 21, 3, -1, nil},
		// Its own office, whether a route comes back to it or not.
		{exampleMails, 2, 7, 2, 7, nil}, {exampleMails, 0, 0, 0, 0, nil}, {loopMails, 0, 0, 0, 0, nil}, {loopMails, 1, 1, 1, 1, nil}, {nil, 9, 9999, 9, 9999, nil}, {[]impl.Mail{}, 0, 0, 0, 0, nil}, {around, 0, 0, 0, 0, nil},
		// Offices that no route reaches.
		{exampleMails, 3, 0, 0, -1, nil}, {exampleMails, 0, 0, 4, -1, nil}, {exampleMails, 9, 0, 0, -1, nil}, {nil, 0, 0, 1, -1, nil}, {[]impl.Mail{}, 9, 9999, 0, -1, nil}, {exampleMails, 1, 0, 0, -1, nil},
		// A mail that leaves just when one arrives, and one minute before that.
		{late, 0, 0, 2, 21, []int{0, 2}}, {late[:2], 0, 0, 2, -1, nil}, {late, 1, 9, 2, 20, []int{1}}, {late, 1, 10, 2, 21, []int{2}},
		// Several routes that end at the same minute.
		{ends, 0, 0, 3, 9, []int{0, 2, 4}}, {fewer, 0, 0, 3, 9, []int{0, 2}}, {ends[1:], 0, 0, 3, 9, []int{0}}, {ends, 0, 1, 3, 9, []int{1}}, {tooLate, 0, 0, 3, 9, []int{2}},
		{mailsOf([4]int{0, 0, 3, 9}, [4]int{1, 0, 3, 9}, [4]int{8, 0, 3, 9}), 0, 0, 3, 9, []int{0}}, {mailsOf([4]int{0, 0, 3, 9}, [4]int{1, 0, 3, 9}, [4]int{8, 0, 3, 9}), 0, 1, 3, 9, []int{1}},
		{mailsOf([4]int{0, 0, 3, 9}, [4]int{1, 0, 3, 9}, [4]int{7, 0, 3, 8}), 0, 0, 3, 8, []int{2}},
		{loopMails, 0, 0, 3, 9, []int{0, 1, 2, 3, 5, 6, 7}}, {loopMails, 0, 1, 3, 9, []int{2, 3, 5, 6, 7}}, {loopMails, 1, 2, 3, 9, []int{3, 5, 6, 7}}, {loopMails, 0, 0, 2, 4, []int{0, 1, 2, 3}}, {loopMails, 0, 0, 1, 1, []int{0}},
		{around, 0, 0, 2, 12, []int{0, 1, 2, 3}}, {around, 0, 0, 1, 5, []int{0}}, {around, 0, 6, 2, 12, []int{2, 3}}, {around, 0, 7, 2, 12, []int{4}},
		// The first and the last minute of all, and the longest route.
		{mailsOf([4]int{0, 9, 0, 9999}), 9, 0, 0, 9999, []int{0}}, {mailsOf([4]int{0, 9, 0, 9999}), 9, 1, 0, -1, nil}, {mailsOf([4]int{9998, 0, 9, 9999}), 0, 9998, 9, 9999, []int{0}}, {mailsOf([4]int{9998, 0, 9, 9999}), 0, 9999, 9, -1, nil},
		{chainOf(20), 0, 0, 9, 90, upTo(9)}, {chainOf(20), 0, 1, 9, 190, []int{10, 11, 12, 13, 14, 15, 16, 17, 18}}, {chainOf(20), 1, 0, 0, 100, upTo(10)[1:]},
	} {
		if got, ok := impl.EarliestAt(x.list, x.from, x.minute, x.to); got != max(x.end, 0) || ok != (x.end >= 0) {
			t.Errorf("EarliestAt(%v, %d, %d, %d) = %d, %v, not %d", x.list, x.from, x.minute, x.to, got, ok, x.end)
		}
		if got, ok := impl.BestRoute(x.list, x.from, x.minute, x.to); !slices.Equal(got, x.route) || ok != (x.end >= 0) {
			t.Errorf("BestRoute(%v, %d, %d, %d) = %v, %v, not %v", x.list, x.from, x.minute, x.to, got, ok, x.route)
		}
	}
}

func TestLongestBestRoute(t *testing.T) {
	// All twenty mails are in the one route, which goes to and fro between two offices before its last mail.
	list := []impl.Mail{}
	for i := range impl.MaxMails {
		list = append(list, impl.Mail{Leave: i, From: i % 2, To: 1 - i%2, Arrive: i + 1})
	}
	list[impl.MaxMails-1].To = 9
	if got, ok := impl.BestRoute(list, 0, 0, 9); !ok || !slices.Equal(got, upTo(impl.MaxMails)) {
		t.Error("best", got, ok)
	}
	if got, ok := impl.EarliestAt(list, 0, 0, 9); !ok || got != impl.MaxMails {
		t.Error("earliest", got, ok)
	}
}

func TestLatestLeave(t *testing.T) {
	// A later first mail that ends as early, and one that ends too late by one minute.
	later := mailsOf([4]int{0, 0, 1, 10}, [4]int{5, 0, 1, 10}, [4]int{6, 0, 1, 11})
	joined := mailsOf([4]int{0, 0, 1, 10}, [4]int{3, 0, 1, 11}, [4]int{10, 1, 2, 20}, [4]int{12, 1, 2, 22}, [4]int{12, 3, 2, 15})
	for _, x := range []struct {
		list         []impl.Mail
		from, to, by int
		leave        int
	}{
		{exampleMails, 0, 3, 25, 0}, {exampleMails, 0, 3, 24, -1}, {exampleMails, 0, 3, 30, 0}, {exampleMails, 0, 2, 20, 0}, {exampleMails, 0, 2, 29, 0}, {exampleMails, 0, 2, 30, 5}, {exampleMails, 0, 2, 19, -1},
		{exampleMails, 1, 3, 25, 10}, {exampleMails, 1, 3, 9999, 10}, {exampleMails, 2, 3, 25, 20}, {exampleMails, 2, 3, 24, -1}, {exampleMails, 0, 1, 10, 0}, {exampleMails, 0, 1, 9, -1},
		{exampleMails, 3, 0, 9999, -1}, {exampleMails, 0, 4, 9999, -1}, {nil, 0, 1, 9999, -1}, {[]impl.Mail{}, 0, 9, 0, -1}, {exampleMails, 0, 3, 0, -1},
		{later, 0, 1, 9, -1}, {later, 0, 1, 10, 5}, {later, 0, 1, 11, 6}, {later[:1], 0, 1, 10, 0}, {later[2:], 0, 1, 10, -1},
		// The second mail leaves just when the first one arrives, and one minute before that.
		{joined, 0, 2, 19, -1}, {joined, 0, 2, 20, 0}, {joined, 0, 2, 21, 0}, {joined, 0, 2, 22, 3}, {joined, 1, 2, 21, 10}, {joined, 1, 2, 22, 12}, {joined, 3, 2, 15, 12}, {joined, 3, 2, 14, -1},
		// A route that leaves its office again, though a longer one left it earlier.
		{loopMails, 0, 2, 4, 2}, {loopMails, 0, 3, 9, 2}, {loopMails, 1, 3, 9, 5}, {loopMails, 1, 2, 5, 3}, {loopMails, 1, 0, 9, 1}, {loopMails, 2, 3, 9, 6}, {loopMails, 2, 3, 8, -1}, {loopMails, 0, 1, 2, 0}, {loopMails, 0, 1, 3, 2},
		{loopMails, 2, 1, 5, 4}, {loopMails, 2, 0, 9999, -1},
		// The first and the last minute of all.
		{mailsOf([4]int{0, 9, 0, 9999}), 9, 0, 9999, 0}, {mailsOf([4]int{0, 9, 0, 9999}), 9, 0, 9998, -1}, {mailsOf([4]int{9998, 0, 9, 9999}), 0, 9, 9999, 9998}, {mailsOf([4]int{0, 0, 1, 1}), 0, 1, 1, 0}, {mailsOf([4]int{0, 0, 1, 1}), 0, 1, 0, -1},
		{chainOf(20), 0, 9, 190, 100}, {chainOf(20), 0, 9, 189, 0}, {chainOf(20), 0, 9, 89, -1}, {chainOf(20), 1, 0, 200, 110}, {chainOf(20), 1, 0, 199, 10},
	} {
		if got, ok := impl.LatestLeave(x.list, x.from, x.to, x.by); got != max(x.leave, 0) || ok != (x.leave >= 0) {
			t.Errorf("LatestLeave(%v, %d, %d, %d) = %d, %v, not %d", x.list, x.from, x.to, x.by, got, ok, x.leave)
		}
	}
	for office := range 10 {
		for _, list := range [][]impl.Mail{nil, exampleMails, loopMails, chainOf(20)} {
			if got, ok := impl.LatestLeave(list, office, office, 9999); ok || got != 0 {
				t.Error("to its own office", len(list), office, got, ok)
			}
		}
	}
}

func TestReachedBy(t *testing.T) {
	for _, x := range []struct {
		list             []impl.Mail
		from, minute, by int
		want             []int
	}{
		{exampleMails, 0, 0, 20, []int{0, 1, 2}}, {exampleMails, 0, 0, 19, []int{0, 1}}, {exampleMails, 0, 0, 24, []int{0, 1, 2}}, {exampleMails, 0, 0, 25, []int{0, 1, 2, 3}}, {exampleMails, 0, 0, 9999, []int{0, 1, 2, 3}},
		{exampleMails, 0, 0, 9, []int{0}}, {exampleMails, 0, 0, 10, []int{0, 1}}, {exampleMails, 0, 0, 0, []int{0}}, {exampleMails, 0, 1, 29, []int{0}}, {exampleMails, 0, 1, 30, []int{0, 2}}, {exampleMails, 0, 5, 30, []int{0, 2}}, {exampleMails, 0, 6, 9999, []int{0}},
		{exampleMails, 1, 10, 25, []int{1, 2, 3}}, {exampleMails, 1, 11, 25, []int{1}}, {exampleMails, 3, 0, 9999, []int{3}}, {exampleMails, 9, 9999, 9999, []int{9}},
		// The office itself, even without any mail and without a minute left.
		{nil, 4, 0, 0, []int{4}}, {[]impl.Mail{}, 9, 9999, 9999, []int{9}}, {nil, 0, 7, 8, []int{0}}, {loopMails, 0, 0, 0, []int{0}}, {loopMails, 0, 0, 1, []int{0, 1}}, {loopMails, 1, 0, 9, []int{0, 1, 2, 3}},
		{chainOf(20), 0, 0, 90, upTo(10)}, {chainOf(20), 0, 0, 89, upTo(9)}, {chainOf(20), 5, 0, 100, []int{0, 5, 6, 7, 8, 9}}, {chainOf(20), 5, 0, 140, upTo(10)}, {chainOf(20), 5, 51, 200, []int{0, 5, 6, 7, 8, 9}},
	} {
		if got, ok := impl.ReachedBy(x.list, x.from, x.minute, x.by); !ok || !slices.Equal(got, x.want) {
			t.Errorf("ReachedBy(%v, %d, %d, %d) = %v, %v, not %v", x.list, x.from, x.minute, x.by, got, ok, x.want)
		}
	}
	for _, x := range [][2]int{{1, 0}, {20, 19}, {25, 0}, {9999, 9998}, {9999, 0}} {
		for _, list := range [][]impl.Mail{nil, exampleMails, loopMails} {
			if got, ok := impl.ReachedBy(list, 0, x[0], x[1]); ok || len(got) != 0 {
				t.Error("by a minute before", len(list), x, got, ok)
			}
		}
	}
}

func TestMissedMails(t *testing.T) {
	early := mailsOf([4]int{0, 0, 1, 10}, [4]int{9, 1, 2, 20}, [4]int{10, 1, 2, 21}, [4]int{20, 2, 3, 30}, [4]int{21, 2, 3, 30})
	for _, x := range []struct {
		list         []impl.Mail
		from, minute int
		want         []int
	}{
		{exampleMails, 0, 0, nil}, {exampleMails, 0, 1, []int{0, 2, 3}}, {exampleMails, 0, 5, []int{0, 2, 3}}, {exampleMails, 0, 6, []int{0, 1, 2, 3}}, {exampleMails, 0, 9999, []int{0, 1, 2, 3}},
		{exampleMails, 1, 0, []int{0, 1}}, {exampleMails, 1, 10, []int{0, 1}}, {exampleMails, 1, 11, []int{0, 1, 2, 3}}, {exampleMails, 2, 20, []int{0, 1, 2}}, {exampleMails, 2, 21, []int{0, 1, 2, 3}}, {exampleMails, 3, 0, []int{0, 1, 2, 3}}, {exampleMails, 9, 0, []int{0, 1, 2, 3}},
		// Those that leave one minute too early.
		{early, 0, 0, []int{1, 3}}, {early, 1, 0, []int{0}}, {early, 1, 10, []int{0, 1, 3}}, {early, 2, 20, []int{0, 1, 2}}, {early, 2, 21, []int{0, 1, 2, 3}},
		{nil, 0, 0, nil}, {[]impl.Mail{}, 9, 9999, nil}, {loopMails, 0, 0, nil}, {loopMails, 1, 2, []int{0, 1, 2}}, {loopMails, 2, 4, []int{0, 1, 2, 3, 4}},
		{chainOf(20), 0, 0, nil}, {chainOf(20), 0, 1, upTo(10)}, {chainOf(20), 5, 0, upTo(5)}, {chainOf(20), 0, 101, upTo(20)},
		// An office is reached twice; the earlier end counts.
		{mailsOf([4]int{0, 0, 1, 9}, [4]int{1, 0, 1, 4}, [4]int{3, 1, 2, 9}, [4]int{4, 1, 2, 9}), 0, 0, []int{2}},
		{mailsOf([4]int{0, 0, 1, 4}, [4]int{1, 0, 1, 9}, [4]int{3, 1, 2, 9}, [4]int{4, 1, 2, 9}), 0, 0, []int{2}},
	} {
		if got, ok := impl.MissedMails(x.list, x.from, x.minute); !ok || !slices.Equal(got, x.want) {
			t.Errorf("MissedMails(%v, %d, %d) = %v, %v, not %v", x.list, x.from, x.minute, got, ok, x.want)
		}
	}
}

func TestPromise9NoRouteEndsEarlier(t *testing.T) {
	r := rand.New(rand.NewSource(99))
	later, none := 0, 0
	for range 300 {
		list := randomMails(r)
		minutes := minutesAround(list)
		for range 5 {
			from, minute := r.Intn(10), minutes[r.Intn(len(minutes))]
			if len(list) > 0 {
				from = list[r.Intn(len(list))].From
			}
			for _, j := range allJourneys(list, from, minute) {
				told, ok := impl.EarliestAt(list, from, minute, j.office)
				if !ok || j.minute < told {
					t.Fatal("a route ends earlier than is told", list, from, minute, j, told, ok)
				}
				if j.minute > told {
					later++
				}
			}
			for to := range 10 {
				told, isTold := impl.EarliestAt(list, from, minute, to)
				route, ok := impl.BestRoute(list, from, minute, to)
				if ok != isTold {
					t.Fatal("one of both fails", list, from, minute, to)
				}
				if !ok {
					none++
					continue
				}
				if office, end, ok := impl.EndOfRoute(list, from, minute, route); !ok || office != to || end != told {
					t.Fatal("no route ends then", list, from, minute, to, told, route, office, end, ok)
				}
			}
		}
	}
	if later < 1000 || none < 100 {
		t.Error("few routes that end later, or few offices that none reaches", later, none)
	}
}

// checkJourneys compares what is told of routes from an office at a minute with all of them.
func checkJourneys(t *testing.T, list []impl.Mail, from, minute, by int) {
	t.Helper()
	all := allJourneys(list, from, minute)
	reached := []int{}
	for to := range 10 {
		best, isThere := bestTo(all, to)
		if got, ok := impl.EarliestAt(list, from, minute, to); ok != isThere || got != best.minute {
			t.Fatalf("EarliestAt(%v, %d, %d, %d) = %d, %v, not %d", list, from, minute, to, got, ok, best.minute)
		}
		if got, ok := impl.BestRoute(list, from, minute, to); ok != isThere || !slices.Equal(got, best.route) {
			t.Fatalf("BestRoute(%v, %d, %d, %d) = %v, %v, not %v", list, from, minute, to, got, ok, best.route)
		}
		if isThere && best.minute <= by {
			reached = append(reached, to)
		}
	}
	missed := []int{}
	for i := range list {
		if !slices.ContainsFunc(all, func(j journey) bool { return slices.Contains(j.route, i) }) {
			missed = append(missed, i)
		}
	}
	if got, ok := impl.MissedMails(list, from, minute); !ok || !slices.Equal(got, missed) {
		t.Fatalf("MissedMails(%v, %d, %d) = %v, %v, not %v", list, from, minute, got, ok, missed)
	}
	if by < minute {
		reached = nil
	}
	if got, ok := impl.ReachedBy(list, from, minute, by); ok != (by >= minute) || !slices.Equal(got, reached) {
		t.Fatalf("ReachedBy(%v, %d, %d, %d) = %v, %v, not %v", list, from, minute, by, got, ok, reached)
	}
}

func TestJourneysOfRandomMails(t *testing.T) {
	r := rand.New(rand.NewSource(909))
	full := 0
	for range 400 {
		list := randomMails(r)
		if !impl.IsTimetable(list) {
			t.Fatal("a timetable", list)
		}
		if len(list) == impl.MaxMails {
			full++
		}
		minutes := minutesAround(list)
		for _, from := range []int{0, 1, 4, 9} {
			checkJourneys(t, list, from, minutes[r.Intn(min(len(minutes), 8))], minutes[r.Intn(len(minutes))])
			checkJourneys(t, list, from, minutes[r.Intn(len(minutes))], minutes[r.Intn(len(minutes))])
		}
	}
	if full == 0 {
		t.Error("no timetable was full")
	}
	for _, list := range [][]impl.Mail{nil, exampleMails, loopMails, chainOf(20)} {
		for _, minute := range minutesAround(list) {
			for from := range 10 {
				checkJourneys(t, list, from, minute, min(minute+10, 9999))
			}
		}
	}
}

func TestLatestLeavesOfRandomMails(t *testing.T) {
	r := rand.New(rand.NewSource(990))
	found, later := 0, 0
	for range 300 {
		list := randomMails(r)
		minutes := minutesAround(list)
		for from := range 5 {
			all := allJourneys(list, from, 0)
			for to := range 10 {
				by := minutes[r.Intn(len(minutes))]
				leaves := []int{}
				for _, j := range all {
					if from != to && j.office == to && j.minute <= by {
						leaves = append(leaves, list[j.route[0]].Leave)
					}
				}
				want := slices.Max(append(leaves, -1))
				if got, ok := impl.LatestLeave(list, from, to, by); got != max(want, 0) || ok != (want >= 0) {
					t.Fatalf("LatestLeave(%v, %d, %d, %d) = %d, %v, not %d", list, from, to, by, got, ok, want)
				}
				if want >= 0 {
					found++
				}
				if want >= 0 && slices.Min(leaves) < want {
					later++
				}
			}
		}
	}
	if found < 300 || later < 100 {
		t.Error("few routes were found, or few that leave later than others", found, later)
	}
}

func TestMailText(t *testing.T) {
	for _, x := range []struct {
		fields [4]int
		want   string
	}{
		{[4]int{0, 0, 1, 10}, "0>1 0-10"}, {[4]int{5, 0, 2, 30}, "0>2 5-30"}, {[4]int{10, 1, 2, 20}, "1>2 10-20"}, {[4]int{9998, 9, 8, 9999}, "9>8 9998-9999"},
		{[4]int{0, 8, 9, 9999}, "8>9 0-9999"}, {[4]int{0, 1, 0, 1}, "1>0 0-1"}, {[4]int{3, 4, 5, 67}, "4>5 3-67"},
	} {
		if got, ok := impl.MailText(mailsOf(x.fields)[0]); !ok || got != x.want {
			t.Error("text", x.fields, got, ok)
		}
	}
	for _, x := range badMails() {
		if got, ok := impl.MailText(x); ok || got != "" {
			t.Error("text of none", x, got, ok)
		}
	}
}

// checkRoutesRefuse checks that all functions of routes from an office at a minute fail.
func checkRoutesRefuse(t *testing.T, list []impl.Mail, from, minute int) {
	t.Helper()
	for _, route := range [][]int{nil, {0}, {0, 1}} {
		if got, ok := impl.IsRoute(list, from, minute, route); got || ok {
			t.Error("IsRoute", len(list), from, minute, route, got, ok)
		}
		if office, end, ok := impl.EndOfRoute(list, from, minute, route); office != 0 || end != 0 || ok {
			t.Error("EndOfRoute", len(list), from, minute, route, office, end, ok)
		}
		if got, ok := impl.WaitsOn(list, from, minute, route); got != 0 || ok {
			t.Error("WaitsOn", len(list), from, minute, route, got, ok)
		}
	}
	for _, to := range []int{0, 2, from} {
		if got, ok := impl.EarliestAt(list, from, minute, to); got != 0 || ok {
			t.Error("EarliestAt", len(list), from, minute, to, got, ok)
		}
		if got, ok := impl.BestRoute(list, from, minute, to); len(got) != 0 || ok {
			t.Error("BestRoute", len(list), from, minute, to, got, ok)
		}
	}
	for _, by := range []int{9999, minute} {
		if got, ok := impl.ReachedBy(list, from, minute, by); len(got) != 0 || ok {
			t.Error("ReachedBy", len(list), from, minute, by, got, ok)
		}
	}
	if got, ok := impl.MissedMails(list, from, minute); len(got) != 0 || ok {
		t.Error("MissedMails", len(list), from, minute, got, ok)
	}
}

func TestListsThatAreNoTimetables(t *testing.T) {
	for _, list := range badTimetables() {
		checkRoutesRefuse(t, list, 0, 0)
		checkRoutesRefuse(t, list, 2, 30)
		for _, from := range []int{0, 9} {
			if got, ok := impl.LatestLeave(list, from, 2, 9999); got != 0 || ok {
				t.Error("LatestLeave", len(list), from, got, ok)
			}
		}
	}
}

func TestOfficesAndMinutesThatAreNone(t *testing.T) {
	for _, n := range farOffices {
		checkRoutesRefuse(t, exampleMails, n, 0)
		checkRoutesRefuse(t, nil, n, 0)
		for _, list := range [][]impl.Mail{nil, exampleMails} {
			if got, ok := impl.EarliestAt(list, 0, 0, n); got != 0 || ok {
				t.Error("EarliestAt", n, got, ok)
			}
			if got, ok := impl.BestRoute(list, 0, 0, n); len(got) != 0 || ok {
				t.Error("BestRoute", n, got, ok)
			}
			for _, x := range [][2]int{{0, n}, {n, 2}, {n, n}} {
				if got, ok := impl.LatestLeave(list, x[0], x[1], 30); got != 0 || ok {
					t.Error("LatestLeave", x, got, ok)
				}
			}
		}
	}
	for _, n := range farMinutes {
		checkRoutesRefuse(t, exampleMails, 0, n)
		checkRoutesRefuse(t, nil, 9, n)
		for _, list := range [][]impl.Mail{nil, exampleMails} {
			if got, ok := impl.LatestLeave(list, 0, 2, n); got != 0 || ok {
				t.Error("LatestLeave", n, got, ok)
			}
			if got, ok := impl.ReachedBy(list, 0, 0, n); len(got) != 0 || ok {
				t.Error("ReachedBy", n, got, ok)
			}
		}
	}
}

func TestRoutesChangeNoArgument(t *testing.T) {
	room := append(slices.Clone(exampleMails), impl.Mail{Leave: 30, From: 2, To: 9, Arrive: 40}, impl.Mail{Leave: -1})
	list, keptMails := room[:4], slices.Clone(room)
	numbers := []int{0, 2, 3, 4, 99}
	route, keptNumbers := numbers[:3], slices.Clone(numbers)
	if office, end, ok := impl.EndOfRoute(list, 0, 0, route); !ok || office != 3 || end != 25 {
		t.Error("end", office, end, ok)
	}
	if got, ok := impl.IsRoute(list, 0, 0, numbers[:4]); !ok || got {
		t.Error("a mail from behind the list", got, ok)
	}
	if got, ok := impl.EarliestAt(list, 0, 0, 9); ok || got != 0 {
		t.Error("a mail from behind the list", got, ok)
	}
	if got, ok := impl.MissedMails(list, 3, 0); !ok || !slices.Equal(got, upTo(4)) {
		t.Error("missed", got, ok)
	}
	for _, l := range [][]impl.Mail{list, room} {
		impl.IsTimetable(l)
		impl.IsRoute(l, 0, 0, route)
		impl.EndOfRoute(l, 0, 0, numbers)
		impl.EarliestAt(l, 0, 0, 3)
		impl.BestRoute(l, 0, 0, 3)
		impl.LatestLeave(l, 0, 3, 25)
		impl.ReachedBy(l, 0, 0, 25)
		impl.WaitsOn(l, 0, 0, route)
		impl.WaitsOn(l, 0, 1, numbers)
		impl.MissedMails(l, 0, 1)
	}
	if !slices.Equal(room, keptMails) || !slices.Equal(numbers, keptNumbers) {
		t.Error("an argument was changed", room, numbers)
	}
}

func TestResultsOfRoutesAreNew(t *testing.T) {
	list := slices.Clone(exampleMails)
	for range 2 {
		best, _ := impl.BestRoute(list, 0, 0, 3)
		reached, _ := impl.ReachedBy(list, 0, 0, 20)
		missed, _ := impl.MissedMails(list, 0, 1)
		if !slices.Equal(best, []int{0, 2, 3}) || !slices.Equal(reached, []int{0, 1, 2}) || !slices.Equal(missed, []int{0, 2, 3}) {
			t.Error("a changed result changed what follows", best, reached, missed)
		}
		for i := range 3 {
			best[i], reached[i], missed[i] = 77, 78, 79
		}
	}
	if !slices.Equal(list, exampleMails) {
		t.Error("a changed result changed an argument", list)
	}
}
