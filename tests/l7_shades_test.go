package tests

import (
	"math/rand"
	"slices"
	"strings"
	"testing"

	"loop.example/g01062/impl"
)

var goodShade = impl.Shade{Name: "red", Width: 15, Dark: 30, Light: 70}

var exampleShades = []impl.Shade{
	{Name: "carmine", Hue: 350, Width: 12, Dark: 20, Light: 60},
	{Name: "orange", Hue: 30, Width: 9, Dark: 50, Light: 80},
	{Name: "red", Hue: 0, Width: 15, Dark: 30, Light: 70},
	{Name: "rose", Hue: 20, Width: 10, Dark: 50, Light: 100},
	{Name: "ultra", Hue: 240, Width: 20, Dark: 0, Light: 50},
}

// farHues are none.
var farHues = append([]int{-361, -360, -180, -2, -1, 360, 361, 540, 719, 720}, farInts...)

// farLights are no lightnesses.
var farLights = append([]int{-100, -2, -1, 101, 102, 360}, farInts...)

// shadeOf makes a shade with all lightnesses.
func shadeOf(name string, hue, width int) impl.Shade {
	return impl.Shade{Name: name, Hue: hue, Width: width, Light: 100}
}

// shadesWithHues makes shades with the names a, b, c and so on, pairs of a hue and a width, and all lightnesses.
func shadesWithHues(pairs ...[2]int) []impl.Shade {
	var list []impl.Shade
	for i, x := range pairs {
		list = append(list, shadeOf(string(rune('a'+i)), x[0], x[1]))
	}
	return list
}

// badShades are not valid, each in one field, or in Dark and Light together.
func badShades() []impl.Shade {
	list := []impl.Shade{{}, {Hue: 20, Width: 10, Dark: 50, Light: 100}}
	for _, name := range append(noMarks(), "") {
		list = append(list, impl.Shade{Name: name, Hue: 20, Width: 10, Dark: 50, Light: 100})
	}
	for _, n := range farHues {
		list = append(list, impl.Shade{Name: "red", Hue: n, Width: 10, Dark: 50, Light: 100})
	}
	for _, n := range append([]int{-180, -1, 180, 181, 359, 360}, farInts...) {
		list = append(list, impl.Shade{Name: "red", Hue: 20, Width: n, Dark: 50, Light: 100})
	}
	for _, n := range farLights {
		list = append(list, impl.Shade{Name: "red", Hue: 20, Width: 10, Dark: n, Light: 50}, impl.Shade{Name: "red", Hue: 20, Width: 10, Dark: 50, Light: n},
			impl.Shade{Name: "red", Hue: 20, Width: 10, Dark: n, Light: n})
	}
	for _, x := range [][2]int{{1, 0}, {100, 0}, {100, 99}, {51, 50}, {50, 49}} {
		list = append(list, impl.Shade{Name: "red", Hue: 20, Width: 10, Dark: x[0], Light: x[1]})
	}
	return list
}

// badShadeLists are no Shades.
func badShadeLists() [][]impl.Shade {
	lists := [][]impl.Shade{
		shadesWithHues(make([][2]int, impl.MaxShades+1)...),
		shadesWithHues(make([][2]int, 26)...),
		make([]impl.Shade, 1),
		make([]impl.Shade, 1000000),
		// A name twice, the others being different or not.
		{goodShade, goodShade},
		{goodShade, shadeOf("red", 180, 10)},
		{shadeOf("a", 0, 10), goodShade, shadeOf("red", 180, 10)},
		{shadeOf("red", 0, 10), shadeOf("rose", 20, 10), shadeOf("red", 0, 10)},
		// Names out of order.
		{shadeOf("rose", 0, 10), shadeOf("red", 20, 10)},
		{shadeOf("aa", 0, 10), shadeOf("a", 20, 10)},
		{shadeOf("b", 0, 10), shadeOf("aaaaaaaaaa", 20, 10)},
		{shadeOf("a", 0, 10), shadeOf("c", 0, 10), shadeOf("b", 0, 10)},
		{shadeOf("b", 0, 10), shadeOf("a", 0, 10), shadeOf("c", 0, 10)},
	}
	for _, x := range badShades() {
		lists = append(lists, []impl.Shade{x}, []impl.Shade{shadeOf("a", 0, 10), x}, []impl.Shade{x, shadeOf("zzzzzzzzzz", 0, 10)})
	}
	return lists
}

// randomShade makes a shade that often lies at the end of the circle.
func randomShade(r *rand.Rand, name string) impl.Shade {
	hue := r.Intn(360)
	if r.Intn(3) == 0 {
		hue = (350 + r.Intn(20)) % 360
	}
	dark := r.Intn(101)
	width := r.Intn([]int{3, 40, 180}[r.Intn(3)])
	return impl.Shade{Name: name, Hue: hue, Width: width, Dark: dark, Light: dark + r.Intn(101-dark)}
}

// randomShades makes at most MaxShades shades, some of which have the Hue or the Width of the one before.
func randomShades(r *rand.Rand) []impl.Shade {
	var list []impl.Shade
	name := "a"
	for i := range r.Intn(impl.MaxShades + 1) {
		x := randomShade(r, name)
		if i > 0 && r.Intn(3) == 0 {
			x.Hue = list[i-1].Hue
		}
		if i > 0 && r.Intn(3) == 0 {
			x.Width = list[i-1].Width
		}
		list = append(list, x)
		if len(name) < 10 && r.Intn(2) == 0 {
			name += "a"
		} else {
			name = name[:len(name)-1] + string(rune(name[len(name)-1]+1))
		}
	}
	return list
}

// nameAt returns the name of one of the shades, mostly.
func nameAt(r *rand.Rand, list []impl.Shade) string {
	if len(list) == 0 || r.Intn(10) == 0 {
		return "zzz"
	}
	return list[r.Intn(len(list))].Name
}

// nextHue returns the hue one step upwards.
func nextHue(hue int) int {
	if hue == 359 {
		return 0
	}
	return hue + 1
}

// stepsUp counts the steps upwards from one hue to another one.
func stepsUp(a, b int) int {
	steps := 0
	for ; a != b; a = nextHue(a) {
		steps++
	}
	return steps
}

// apart returns the distance of two hues, in steps.
func apart(a, b int) int { return min(stepsUp(a, b), stepsUp(b, a)) }

// colorSet tells of each hue and lightness whether it is in a set.
type colorSet [360][101]bool

// colorsOf returns the colors that a shade takes in: those at most its Width of steps upwards from its Hue, and those from which one comes so to it.
func colorsOf(x impl.Shade) *colorSet {
	var set colorSet
	for hue := range 360 {
		if stepsUp(x.Hue, hue) > x.Width && stepsUp(hue, x.Hue) > x.Width {
			continue
		}
		for light := x.Dark; light <= x.Light; light++ {
			set[hue][light] = true
		}
	}
	return &set
}

// setsOf returns the colors of each shade.
func setsOf(list []impl.Shade) []*colorSet {
	var sets []*colorSet
	for _, x := range list {
		sets = append(sets, colorsOf(x))
	}
	return sets
}

// haveCommon reports whether a color is in both sets.
func haveCommon(a, b *colorSet) bool {
	for hue := range 360 {
		for light := range 101 {
			if a[hue][light] && b[hue][light] {
				return true
			}
		}
	}
	return false
}

// holders returns the names of the shades in whose sets a color is.
func holders(list []impl.Shade, sets []*colorSet, hue, light int) []string {
	var names []string
	for i, x := range list {
		if sets[i][hue][light] {
			names = append(names, x.Name)
		}
	}
	return names
}

func samePairs(a, b [][]string) bool { return slices.EqualFunc(a, b, slices.Equal[[]string]) }

func TestConstantsOfShades(t *testing.T) {
	if impl.MaxShades != 12 {
		t.Error("limit", impl.MaxShades)
	}
}

func TestIsShade(t *testing.T) {
	for _, x := range append(slices.Clone(exampleShades), goodShade, impl.Shade{Name: "a"}, impl.Shade{Name: "zzzzzzzzzz", Hue: 359, Width: 179, Dark: 100, Light: 100},
		impl.Shade{Name: "a", Hue: 0, Width: 179, Dark: 0, Light: 100}, impl.Shade{Name: "a", Hue: 359}) {
		if !impl.IsShade(x) {
			t.Error("a shade", x)
		}
	}
	for _, name := range goodMarks() {
		if !impl.IsShade(impl.Shade{Name: name, Hue: 20}) {
			t.Error("a name", name)
		}
	}
	for _, x := range badShades() {
		if impl.IsShade(x) {
			t.Errorf("no shade: %.20q %d %d %d %d", x.Name, x.Hue, x.Width, x.Dark, x.Light)
		}
	}
	for n := -2; n <= 362; n++ {
		if got := impl.IsShade(shadeOf("a", n, 10)); got != (n >= 0 && n < 360) {
			t.Error("hue", n, got)
		}
		if got := impl.IsShade(shadeOf("a", 10, n)); got != (n >= 0 && n < 180) {
			t.Error("width", n, got)
		}
	}
	for dark := -2; dark <= 102; dark++ {
		for light := -2; light <= 102; light++ {
			want := 0 <= dark && dark <= light && light <= 100
			if got := impl.IsShade(impl.Shade{Name: "a", Dark: dark, Light: light}); got != want {
				t.Error("lightnesses", dark, light, got)
			}
		}
	}
}

func TestAreShades(t *testing.T) {
	for _, l := range [][]impl.Shade{
		nil, {}, {goodShade}, exampleShades, shadesWithHues(make([][2]int, impl.MaxShades)...), shadesWithHues(make([][2]int, impl.MaxShades-1)...),
		{shadeOf("a", 0, 179), shadeOf("aa", 0, 179), shadeOf("ab", 0, 0), shadeOf("b", 359, 0)},
		{shadeOf("zzzzzzzzz", 0, 10), shadeOf("zzzzzzzzzz", 0, 10)}, {shadeOf("aaaaaaaaaz", 9, 1), shadeOf("b", 8, 0)},
	} {
		if !impl.AreShades(l) {
			t.Error("shades", l)
		}
	}
	for i, l := range badShadeLists() {
		if impl.AreShades(l) {
			t.Error("no shades", i, len(l))
		}
	}
}

func TestHueDistance(t *testing.T) {
	for _, x := range [][3]int{
		{350, 10, 20}, {10, 350, 20}, {0, 0, 0}, {359, 359, 0}, {0, 359, 1}, {359, 0, 1}, {0, 180, 180}, {180, 0, 180}, {90, 270, 180}, {359, 179, 180},
		{0, 179, 179}, {0, 181, 179}, {181, 0, 179}, {359, 180, 179}, {359, 178, 179}, {100, 130, 30}, {130, 100, 30}, {1, 359, 2},
	} {
		if got, ok := impl.HueDistance(x[0], x[1]); !ok || got != x[2] {
			t.Errorf("HueDistance(%d, %d) = %d, %v", x[0], x[1], got, ok)
		}
	}
	for a := range 360 {
		for b := range 360 {
			if got, ok := impl.HueDistance(a, b); !ok || got != apart(a, b) {
				t.Fatalf("HueDistance(%d, %d) = %d, %v", a, b, got, ok)
			}
		}
	}
}

func TestBlendHue(t *testing.T) {
	for _, x := range [][3]int{
		{350, 10, 0}, {10, 350, 0}, {340, 10, 355}, {10, 340, 355}, {100, 130, 115}, {130, 100, 115}, {0, 2, 1}, {2, 0, 1}, {359, 1, 0}, {1, 359, 0},
		{0, 0, 0}, {359, 359, 359}, {77, 77, 77},
		// An odd distance is nearer to the first one, on either side and over the end of the circle.
		{0, 5, 2}, {5, 0, 3}, {0, 1, 0}, {1, 0, 1}, {359, 0, 359}, {0, 359, 0}, {358, 3, 0}, {3, 358, 1}, {357, 2, 359}, {2, 357, 0},
		{0, 179, 89}, {179, 0, 90}, {0, 181, 271}, {181, 0, 270}, {359, 178, 88}, {178, 359, 89},
		// Just opposite each other: upwards from the first one.
		{0, 180, 90}, {180, 0, 270}, {90, 270, 180}, {270, 90, 0}, {1, 181, 91}, {181, 1, 271}, {359, 179, 89}, {179, 359, 269}, {300, 120, 30},
		// One more or less than just opposite.
		{0, 178, 89}, {0, 182, 271}, {300, 119, 29}, {300, 121, 211},
	} {
		if got, ok := impl.BlendHue(x[0], x[1]); !ok || got != x[2] {
			t.Errorf("BlendHue(%d, %d) = %d, %v, not %d", x[0], x[1], got, ok, x[2])
		}
	}
}

func TestBlendedHuesAreHalfOfTheWay(t *testing.T) {
	for a := range 360 {
		for b := range 360 {
			got, ok := impl.BlendHue(a, b)
			if !ok || got < 0 || got > 359 {
				t.Fatalf("BlendHue(%d, %d) = %d, %v", a, b, got, ok)
			}
			up, down := stepsUp(a, b), stepsUp(b, a)
			if up <= down && stepsUp(a, got) != up/2 || up > down && stepsUp(got, a) != down/2 {
				t.Fatalf("BlendHue(%d, %d) = %d", a, b, got)
			}
		}
	}
}

func TestHuesThatAreNone(t *testing.T) {
	refused := func(a, b int) {
		t.Helper()
		if got, ok := impl.HueDistance(a, b); ok || got != 0 {
			t.Errorf("HueDistance(%d, %d) = %d, %v", a, b, got, ok)
		}
		if got, ok := impl.BlendHue(a, b); ok || got != 0 {
			t.Errorf("BlendHue(%d, %d) = %d, %v", a, b, got, ok)
		}
	}
	for _, n := range farHues {
		for _, hue := range []int{0, 1, 179, 180, 181, 359} {
			refused(n, hue)
			refused(hue, n)
		}
		for _, m := range farHues {
			refused(n, m)
		}
	}
}

func TestShadesOf(t *testing.T) {
	ends := shadesWithHues([2]int{355, 10}, [2]int{5, 10})
	lights := []impl.Shade{{Name: "all", Light: 100}, {Name: "dark"}, {Name: "light", Dark: 100, Light: 100}, {Name: "middle", Dark: 40, Light: 60}, {Name: "one", Dark: 50, Light: 50}}
	for _, x := range []struct {
		list       []impl.Shade
		hue, light int
		want       []string
	}{
		{exampleShades, 12, 60, []string{"red", "rose"}},
		{exampleShades, 12, 50, []string{"red", "rose"}},
		{exampleShades, 12, 49, []string{"red"}},
		{exampleShades, 12, 70, []string{"red", "rose"}},
		{exampleShades, 12, 71, []string{"rose"}},
		{exampleShades, 0, 60, []string{"carmine", "red"}},
		{exampleShades, 359, 60, []string{"carmine", "red"}},
		{exampleShades, 359, 61, []string{"red"}},
		{exampleShades, 359, 20, []string{"carmine"}},
		{exampleShades, 2, 40, []string{"carmine", "red"}},
		{exampleShades, 3, 40, []string{"red"}},
		{exampleShades, 345, 40, []string{"carmine", "red"}},
		{exampleShades, 344, 40, []string{"carmine"}},
		{exampleShades, 338, 40, []string{"carmine"}},
		{exampleShades, 337, 40, nil},
		{exampleShades, 240, 0, []string{"ultra"}},
		{exampleShades, 180, 50, nil},
		{exampleShades, 25, 60, []string{"orange", "rose"}},
		// On both sides of the end of the circle.
		{ends, 344, 50, nil}, {ends, 345, 50, []string{"a"}}, {ends, 354, 50, []string{"a"}}, {ends, 355, 50, []string{"a", "b"}}, {ends, 359, 50, []string{"a", "b"}},
		{ends, 0, 50, []string{"a", "b"}}, {ends, 5, 50, []string{"a", "b"}}, {ends, 6, 50, []string{"b"}}, {ends, 15, 50, []string{"b"}}, {ends, 16, 50, nil},
		// The least width, and the greatest one, which leaves out only the opposite hue.
		{shadesWithHues([2]int{0, 0}), 0, 0, []string{"a"}}, {shadesWithHues([2]int{0, 0}), 1, 0, nil}, {shadesWithHues([2]int{0, 0}), 359, 0, nil},
		{shadesWithHues([2]int{359, 0}), 359, 100, []string{"a"}}, {shadesWithHues([2]int{359, 0}), 358, 100, nil}, {shadesWithHues([2]int{359, 0}), 0, 100, nil},
		{shadesWithHues([2]int{0, 179}), 179, 0, []string{"a"}}, {shadesWithHues([2]int{0, 179}), 180, 0, nil}, {shadesWithHues([2]int{0, 179}), 181, 0, []string{"a"}},
		{shadesWithHues([2]int{359, 179}), 179, 0, nil}, {shadesWithHues([2]int{359, 179}), 180, 0, []string{"a"}}, {shadesWithHues([2]int{359, 179}), 178, 0, []string{"a"}},
		// Dark and Light equal, 0 and 100.
		{lights, 0, 0, []string{"all", "dark"}}, {lights, 0, 1, []string{"all"}}, {lights, 0, 99, []string{"all"}}, {lights, 0, 100, []string{"all", "light"}},
		{lights, 0, 39, []string{"all"}}, {lights, 0, 40, []string{"all", "middle"}}, {lights, 0, 60, []string{"all", "middle"}}, {lights, 0, 61, []string{"all"}},
		{lights, 0, 49, []string{"all", "middle"}}, {lights, 0, 50, []string{"all", "middle", "one"}}, {lights, 0, 51, []string{"all", "middle"}}, {lights, 1, 50, nil},
		{nil, 0, 0, nil}, {[]impl.Shade{}, 359, 100, nil},
		{shadesWithHues(make([][2]int, 12)...), 0, 50, strings.Split("abcdefghijkl", "")},
	} {
		if got, ok := impl.ShadesOf(x.list, x.hue, x.light); !ok || !slices.Equal(got, x.want) {
			t.Errorf("ShadesOf(%v, %d, %d) = %v, %v", x.list, x.hue, x.light, got, ok)
		}
	}
}

func TestBestShade(t *testing.T) {
	for _, x := range []struct {
		list       []impl.Shade
		hue, light int
		want       string
	}{
		{exampleShades, 12, 60, "rose"}, {exampleShades, 9, 60, "red"}, {exampleShades, 11, 60, "rose"}, {exampleShades, 12, 49, "red"},
		{exampleShades, 359, 60, "red"}, {exampleShades, 355, 60, "carmine"}, {exampleShades, 356, 60, "red"}, {exampleShades, 359, 25, "carmine"},
		{exampleShades, 240, 50, "ultra"}, {exampleShades, 220, 0, "ultra"},
		// The nearest one is best, though others are narrower or before it.
		{shadesWithHues([2]int{10, 11}, [2]int{1, 179}), 0, 50, "b"}, {shadesWithHues([2]int{1, 179}, [2]int{10, 11}), 0, 50, "a"},
		{shadesWithHues([2]int{350, 10}, [2]int{351, 170}, [2]int{10, 10}), 0, 50, "b"},
		// The nearest one does not take it in.
		{shadesWithHues([2]int{1, 0}, [2]int{100, 100}), 0, 50, "b"}, {shadesWithHues([2]int{100, 100}, [2]int{359, 0}), 0, 50, "a"},
		{[]impl.Shade{{Name: "a", Width: 5, Light: 49}, shadeOf("b", 90, 90), {Name: "c", Width: 5, Dark: 51, Light: 60}}, 0, 50, "b"},
		// Equally near on both sides or on one, over the end of the circle, too: the narrower one, wherever it is.
		{shadesWithHues([2]int{5, 10}, [2]int{355, 9}), 0, 50, "b"}, {shadesWithHues([2]int{5, 9}, [2]int{355, 10}), 0, 50, "a"},
		{shadesWithHues([2]int{5, 10}, [2]int{5, 9}), 0, 50, "b"}, {shadesWithHues([2]int{95, 10}, [2]int{105, 5}, [2]int{95, 6}), 100, 50, "b"},
		{shadesWithHues([2]int{0, 179}, [2]int{0, 0}, [2]int{0, 1}), 0, 50, "b"}, {shadesWithHues([2]int{90, 100}, [2]int{270, 99}), 180, 50, "b"},
		// Equally near and wide: the first one.
		{shadesWithHues([2]int{5, 10}, [2]int{355, 10}), 0, 50, "a"}, {shadesWithHues([2]int{355, 10}, [2]int{5, 10}), 0, 50, "a"},
		{shadesWithHues([2]int{9, 9}, [2]int{8, 8}, [2]int{352, 8}, [2]int{8, 8}), 0, 50, "b"}, {shadesWithHues(make([][2]int, 12)...), 0, 0, "a"},
		{[]impl.Shade{{Name: "a", Width: 5, Light: 49}, shadeOf("b", 1, 5), shadeOf("c", 359, 5)}, 0, 50, "b"},
		// The range of lightnesses does not matter, if it takes the color in.
		{[]impl.Shade{shadeOf("a", 5, 5), {Name: "b", Hue: 5, Width: 5, Dark: 50, Light: 50}}, 0, 50, "a"},
	} {
		if got, ok := impl.BestShade(x.list, x.hue, x.light); !ok || got != x.want {
			t.Errorf("BestShade(%v, %d, %d) = %q, %v, not %q", x.list, x.hue, x.light, got, ok, x.want)
		}
	}
}

func TestBestShadeFailsWhereThereIsNone(t *testing.T) {
	for _, x := range []struct {
		list       []impl.Shade
		hue, light int
	}{
		{nil, 0, 0}, {[]impl.Shade{}, 359, 100}, {exampleShades, 180, 50}, {exampleShades, 0, 19}, {exampleShades, 0, 71}, {exampleShades, 337, 40}, {exampleShades, 219, 50},
		{shadesWithHues([2]int{0, 179}), 180, 50}, {shadesWithHues([2]int{0, 0}, [2]int{2, 0}), 1, 50}, {shadesWithHues([2]int{1, 0}, [2]int{359, 0}), 0, 50},
		{[]impl.Shade{{Name: "a", Light: 49}, {Name: "b", Dark: 51, Light: 100}}, 0, 50},
	} {
		if got, ok := impl.BestShade(x.list, x.hue, x.light); ok || got != "" {
			t.Errorf("BestShade(%v, %d, %d) = %q, %v", x.list, x.hue, x.light, got, ok)
		}
		if got, ok := impl.ShadesOf(x.list, x.hue, x.light); !ok || len(got) != 0 {
			t.Errorf("ShadesOf(%v, %d, %d) = %v, %v", x.list, x.hue, x.light, got, ok)
		}
	}
}

// checkBest checks that the best shade of a color takes it in and none that does is better.
func checkBest(t *testing.T, list []impl.Shade, names []string, hue, light int) {
	t.Helper()
	best, ok := impl.BestShade(list, hue, light)
	if ok != (len(names) > 0) || ok != slices.Contains(names, best) || !ok && best != "" {
		t.Fatalf("BestShade(%v, %d, %d) = %q, %v of %v", list, hue, light, best, ok, names)
	}
	if !ok {
		return
	}
	shades := map[string]impl.Shade{}
	for _, x := range list {
		shades[x.Name] = x
	}
	by, width := apart(shades[best].Hue, hue), shades[best].Width
	for _, name := range names {
		x := shades[name]
		otherBy := apart(hue, x.Hue)
		if otherBy < by || otherBy == by && x.Width < width || otherBy == by && x.Width == width && name < best {
			t.Fatalf("BestShade(%v, %d, %d) = %q, but %q is better", list, hue, light, best, name)
		}
	}
}

func TestBestShadeTakesInAndNoneThatDoesIsNearer(t *testing.T) {
	r := rand.New(rand.NewSource(71))
	for range 300 {
		list := randomShades(r)
		sets := setsOf(list)
		for hue := range 360 {
			light := r.Intn(101)
			names := holders(list, sets, hue, light)
			if got, ok := impl.ShadesOf(list, hue, light); !ok || !slices.Equal(got, names) {
				t.Fatalf("ShadesOf(%v, %d, %d) = %v, %v, not %v", list, hue, light, got, ok, names)
			}
			checkBest(t, list, names, hue, light)
		}
	}
}

func TestShadesTakeInEachColorOrNot(t *testing.T) {
	for _, list := range [][]impl.Shade{exampleShades, {goodShade}, shadesWithHues([2]int{0, 179}, [2]int{180, 179}, [2]int{359, 0})} {
		sets := setsOf(list)
		for hue := range 360 {
			for light := range 101 {
				names := holders(list, sets, hue, light)
				if got, ok := impl.ShadesOf(list, hue, light); !ok || !slices.Equal(got, names) {
					t.Fatalf("ShadesOf(%v, %d, %d) = %v, %v, not %v", list, hue, light, got, ok, names)
				}
				checkBest(t, list, names, hue, light)
			}
		}
	}
}

func checkOverlap(t *testing.T, x, y impl.Shade, want bool) {
	t.Helper()
	if got, ok := impl.DoOverlap(x, y); !ok || got != want {
		t.Fatalf("DoOverlap(%v, %v) = %v, %v", x, y, got, ok)
	}
	if got, ok := impl.DoOverlap(y, x); !ok || got != want {
		t.Fatalf("DoOverlap(%v, %v) = %v, %v", y, x, got, ok)
	}
}

func TestDoOverlap(t *testing.T) {
	for _, x := range []struct {
		hueA, widthA, hueB, widthB int
		want                       bool
	}{
		// The hues just touch, or just miss each other, upwards.
		{100, 10, 120, 10, true}, {100, 10, 121, 10, false}, {100, 9, 120, 10, false}, {100, 10, 120, 9, false}, {100, 0, 100, 0, true}, {100, 0, 101, 0, false},
		{100, 0, 110, 10, true}, {100, 0, 111, 10, false},
		// Over the end of the circle.
		{350, 10, 10, 10, true}, {350, 10, 11, 10, false}, {349, 10, 10, 10, false}, {350, 10, 10, 9, false}, {359, 1, 0, 0, true}, {359, 0, 0, 0, false}, {359, 0, 0, 1, true},
		{359, 0, 1, 1, false}, {0, 0, 359, 0, false}, {350, 20, 10, 0, true}, {350, 19, 10, 0, false},
		// On the other side.
		{0, 90, 180, 90, true}, {0, 90, 180, 89, false}, {0, 89, 180, 90, false}, {1, 90, 181, 90, true}, {0, 89, 181, 90, true}, {0, 89, 179, 90, true},
		// The greatest widths.
		{0, 179, 180, 0, false}, {0, 179, 179, 0, true}, {0, 179, 181, 0, true}, {0, 179, 180, 1, true}, {0, 179, 180, 179, true}, {0, 179, 0, 179, true}, {359, 179, 179, 0, false},
	} {
		checkOverlap(t, shadeOf("a", x.hueA, x.widthA), shadeOf("b", x.hueB, x.widthB), x.want)
		checkOverlap(t, shadeOf("same", x.hueA, x.widthA), shadeOf("same", x.hueB, x.widthB), x.want)
	}
	for _, x := range []struct {
		darkA, lightA, darkB, lightB int
		want                         bool
	}{
		// The lightnesses just touch, or just miss each other.
		{20, 50, 50, 80, true}, {20, 50, 51, 80, false}, {20, 49, 50, 80, false}, {0, 0, 0, 0, true}, {0, 0, 1, 1, false}, {100, 100, 100, 100, true}, {99, 99, 100, 100, false},
		{0, 100, 50, 50, true}, {0, 100, 0, 0, true}, {0, 100, 100, 100, true}, {20, 80, 30, 70, true}, {20, 60, 30, 70, true}, {0, 0, 100, 100, false}, {50, 50, 50, 50, true},
	} {
		a, b := shadeOf("a", 350, 12), shadeOf("b", 2, 0)
		a.Dark, a.Light, b.Dark, b.Light = x.darkA, x.lightA, x.darkB, x.lightB
		checkOverlap(t, a, b, x.want)
		// The hues miss each other.
		b.Hue = 3
		checkOverlap(t, a, b, false)
	}
	for _, x := range exampleShades {
		checkOverlap(t, x, x, true)
	}
}

func TestHuesOverlapAroundTheCircle(t *testing.T) {
	for _, widthA := range []int{0, 1, 59, 60, 89, 90, 178, 179} {
		for _, widthB := range []int{0, 1, 2, 30, 89, 90, 91, 179} {
			for _, hueA := range []int{0, 1, 180, 359} {
				for hueB := range 360 {
					a, b := shadeOf("a", hueA, widthA), shadeOf("b", hueB, widthB)
					want := false
					// From one end of what b takes in to the other one.
					hue := (hueB + 360 - widthB) % 360
					for range 2*widthB + 1 {
						want = want || apart(hue, hueA) <= widthA
						hue = nextHue(hue)
					}
					checkOverlap(t, a, b, want)
				}
			}
		}
	}
}

func TestDoOverlapRefuses(t *testing.T) {
	for i, x := range badShades() {
		if got, ok := impl.DoOverlap(x, goodShade); ok || got {
			t.Error("the first one", i, got, ok)
		}
		if got, ok := impl.DoOverlap(goodShade, x); ok || got {
			t.Error("the second one", i, got, ok)
		}
		if got, ok := impl.DoOverlap(x, x); ok || got {
			t.Error("both", i, got, ok)
		}
	}
}

func TestOverlapPairs(t *testing.T) {
	for _, x := range []struct {
		list []impl.Shade
		want [][]string
	}{
		{exampleShades, [][]string{{"carmine", "red"}, {"orange", "rose"}, {"red", "rose"}}},
		{nil, nil}, {[]impl.Shade{}, nil}, {[]impl.Shade{goodShade}, nil},
		{shadesWithHues([2]int{0, 0}, [2]int{0, 0}), [][]string{{"a", "b"}}},
		{shadesWithHues([2]int{0, 0}, [2]int{1, 0}), nil},
		{shadesWithHues([2]int{355, 5}, [2]int{180, 0}, [2]int{5, 5}, [2]int{10, 0}), [][]string{{"a", "c"}, {"c", "d"}}},
		{shadesWithHues([2]int{0, 10}, [2]int{100, 10}, [2]int{110, 0}, [2]int{350, 0}), [][]string{{"a", "d"}, {"b", "c"}}},
		{[]impl.Shade{{Name: "a", Light: 50}, {Name: "b", Dark: 50, Light: 90}, {Name: "c", Dark: 51, Light: 60}}, [][]string{{"a", "b"}, {"b", "c"}}},
	} {
		if got, ok := impl.OverlapPairs(x.list); !ok || !samePairs(got, x.want) {
			t.Errorf("OverlapPairs(%v) = %v, %v", x.list, got, ok)
		}
	}
	all := shadesWithHues(make([][2]int, 12)...)
	var want [][]string
	for i, x := range all {
		for _, y := range all[i+1:] {
			want = append(want, []string{x.Name, y.Name})
		}
	}
	if got, ok := impl.OverlapPairs(all); !ok || len(got) != 66 || !samePairs(got, want) {
		t.Error("all pairs", got, ok)
	}
}

func TestPairsOverlapJustWithACommonColor(t *testing.T) {
	r := rand.New(rand.NewSource(72))
	for range 300 {
		list := randomShades(r)
		sets := setsOf(list)
		var want [][]string
		for i, x := range list {
			for j, y := range list {
				common := haveCommon(sets[i], sets[j])
				checkOverlap(t, x, y, common)
				if i < j && common {
					want = append(want, []string{x.Name, y.Name})
				}
			}
		}
		if got, ok := impl.OverlapPairs(list); !ok || !samePairs(got, want) {
			t.Fatalf("OverlapPairs(%v) = %v, %v, not %v", list, got, ok, want)
		}
	}
}

func TestColorsIn(t *testing.T) {
	for x, want := range map[impl.Shade]int{
		goodShade:                     1271,
		{Name: "a"}:                   1,
		{Name: "a", Hue: 359}:         1,
		{Name: "a", Width: 1}:         3,
		{Name: "a", Light: 1}:         2,
		{Name: "a", Light: 100}:       101,
		{Name: "a", Width: 179}:       359,
		shadeOf("a", 0, 179):          36259,
		shadeOf("zzzzzzzzzz", 359, 5): 1111,
		{Name: "a", Hue: 180, Width: 2, Dark: 100, Light: 100}: 5,
	} {
		if got, ok := impl.ColorsIn(x); !ok || got != want {
			t.Errorf("ColorsIn(%v) = %d, %v", x, got, ok)
		}
	}
	for i, x := range badShades() {
		if got, ok := impl.ColorsIn(x); ok || got != 0 {
			t.Error("ColorsIn", i, got, ok)
		}
	}
	r := rand.New(rand.NewSource(73))
	for range 500 {
		x := randomShade(r, "a")
		want := 0
		for _, lights := range colorsOf(x) {
			for _, in := range lights {
				if in {
					want++
				}
			}
		}
		if got, ok := impl.ColorsIn(x); !ok || got != want {
			t.Fatalf("ColorsIn(%v) = %d, %v, not %d", x, got, ok, want)
		}
	}
}

func TestFreeColors(t *testing.T) {
	for _, x := range []struct {
		list        []impl.Shade
		light, want int
	}{
		{nil, 0, 360}, {[]impl.Shade{}, 100, 360}, {exampleShades, 100, 339}, {exampleShades, 10, 319}, {exampleShades, 60, 298},
		{[]impl.Shade{goodShade}, 29, 360}, {[]impl.Shade{goodShade}, 30, 329}, {[]impl.Shade{goodShade}, 70, 329}, {[]impl.Shade{goodShade}, 71, 360},
		{shadesWithHues([2]int{0, 0}), 50, 359}, {shadesWithHues([2]int{0, 179}), 50, 1}, {shadesWithHues([2]int{359, 179}), 50, 1},
		{shadesWithHues([2]int{0, 179}, [2]int{180, 0}), 0, 0}, {shadesWithHues([2]int{0, 179}, [2]int{180, 179}), 100, 0}, {shadesWithHues([2]int{0, 179}, [2]int{1, 179}), 100, 0},
		{shadesWithHues([2]int{0, 179}, [2]int{0, 20}), 100, 1},
		// They just touch, just miss each other, or overlap, over the end of the circle, too.
		{shadesWithHues([2]int{350, 5}, [2]int{1, 5}), 50, 338}, {shadesWithHues([2]int{350, 5}, [2]int{0, 5}), 50, 339}, {shadesWithHues([2]int{350, 5}, [2]int{2, 5}), 50, 338},
		{shadesWithHues([2]int{350, 5}, [2]int{350, 5}), 50, 349}, {shadesWithHues(make([][2]int, 12)...), 50, 359},
	} {
		if got, ok := impl.FreeColors(x.list, x.light); !ok || got != x.want {
			t.Errorf("FreeColors(%v, %d) = %d, %v, not %d", x.list, x.light, got, ok, x.want)
		}
	}
}

func TestCertainHues(t *testing.T) {
	same := shadesWithHues([2]int{350, 5}, [2]int{350, 5}, [2]int{100, 3})
	whole := shadesWithHues([2]int{0, 179}, [2]int{180, 0}, [2]int{170, 20})
	for _, x := range []struct {
		list        []impl.Shade
		name        string
		light, want int
	}{
		{exampleShades, "red", 55, 7}, {exampleShades, "red", 40, 13}, {exampleShades, "red", 65, 25}, {exampleShades, "red", 70, 25}, {exampleShades, "red", 71, 0}, {exampleShades, "red", 29, 0},
		{exampleShades, "rose", 100, 21}, {exampleShades, "rose", 60, 5}, {exampleShades, "rose", 75, 11}, {exampleShades, "orange", 60, 9}, {exampleShades, "ultra", 0, 41}, {exampleShades, "ultra", 51, 0},
		{exampleShades, "carmine", 20, 25}, {exampleShades, "carmine", 30, 7}, {exampleShades, "carmine", 19, 0},
		// One that takes in the same, or all, leaves none.
		{same, "a", 50, 0}, {same, "b", 50, 0}, {same, "c", 50, 7}, {whole, "a", 50, 319}, {whole, "b", 50, 0}, {whole, "c", 50, 0},
		{shadesWithHues([2]int{0, 179}), "a", 0, 359}, {shadesWithHues([2]int{359, 0}), "a", 100, 1}, {shadesWithHues([2]int{0, 179}, [2]int{180, 0}), "b", 100, 1},
		{shadesWithHues(make([][2]int, 12)...), "l", 50, 0}, {[]impl.Shade{goodShade}, "red", 30, 31}, {[]impl.Shade{goodShade}, "red", 71, 0},
		// The last hue of one is the first one of the other one, over the end of the circle.
		{shadesWithHues([2]int{355, 5}, [2]int{5, 5}), "a", 50, 10}, {shadesWithHues([2]int{355, 5}, [2]int{5, 5}), "b", 50, 10}, {shadesWithHues([2]int{355, 5}, [2]int{6, 5}), "a", 50, 11},
	} {
		if got, ok := impl.CertainHues(x.list, x.name, x.light); !ok || got != x.want {
			t.Errorf("CertainHues(%v, %q, %d) = %d, %v, not %d", x.list, x.name, x.light, got, ok, x.want)
		}
	}
}

func TestCertainHuesRefusesNames(t *testing.T) {
	for _, name := range append(noMarks(), "", "re", "reds", "a", "z", "rosa", "zzzzzzzzzz") {
		if got, ok := impl.CertainHues(exampleShades, name, 50); ok || got != 0 {
			t.Errorf("CertainHues of %.20q = %d, %v", name, got, ok)
		}
		if got, ok := impl.CertainHues(nil, name, 50); ok || got != 0 {
			t.Errorf("CertainHues of %.20q without shades = %d, %v", name, got, ok)
		}
	}
}

func TestHuesAreCounted(t *testing.T) {
	r := rand.New(rand.NewSource(74))
	for range 300 {
		list := randomShades(r)
		sets := setsOf(list)
		for light := range 101 {
			free, certain := 0, map[string]int{}
			for hue := range 360 {
				switch names := holders(list, sets, hue, light); len(names) {
				case 0:
					free++
				case 1:
					certain[names[0]]++
				}
			}
			if got, ok := impl.FreeColors(list, light); !ok || got != free {
				t.Fatalf("FreeColors(%v, %d) = %d, %v, not %d", list, light, got, ok, free)
			}
			name := nameAt(r, list)
			got, ok := impl.CertainHues(list, name, light)
			if ok != (name != "zzz") || got != certain[name] {
				t.Fatalf("CertainHues(%v, %q, %d) = %d, %v, not %d", list, name, light, got, ok, certain[name])
			}
		}
	}
}

func TestColorsThatAreNone(t *testing.T) {
	refused := func(hue, light int) {
		t.Helper()
		for _, list := range [][]impl.Shade{exampleShades, shadesWithHues([2]int{0, 179}, [2]int{180, 179}), nil} {
			if got, ok := impl.ShadesOf(list, hue, light); ok || len(got) != 0 {
				t.Errorf("ShadesOf for %d, %d = %v, %v", hue, light, got, ok)
			}
			if got, ok := impl.BestShade(list, hue, light); ok || got != "" {
				t.Errorf("BestShade for %d, %d = %q, %v", hue, light, got, ok)
			}
		}
	}
	for _, n := range farHues {
		refused(n, 0)
		refused(n, 50)
		refused(n, n)
	}
	for _, n := range farLights {
		refused(0, n)
		refused(359, n)
		for _, list := range [][]impl.Shade{exampleShades, {shadeOf("red", 0, 179)}, nil} {
			if got, ok := impl.FreeColors(list, n); ok || got != 0 {
				t.Errorf("FreeColors for %d = %d, %v", n, got, ok)
			}
			if got, ok := impl.CertainHues(list, "red", n); ok || got != 0 {
				t.Errorf("CertainHues for %d = %d, %v", n, got, ok)
			}
		}
	}
}

func TestShadesRefuseListsThatAreNone(t *testing.T) {
	for i, list := range badShadeLists() {
		for _, x := range [][2]int{{0, 0}, {20, 50}, {359, 100}} {
			if got, ok := impl.ShadesOf(list, x[0], x[1]); ok || len(got) != 0 {
				t.Error("ShadesOf", i, got, ok)
			}
			if got, ok := impl.BestShade(list, x[0], x[1]); ok || got != "" {
				t.Error("BestShade", i, got, ok)
			}
			if got, ok := impl.FreeColors(list, x[1]); ok || got != 0 {
				t.Error("FreeColors", i, got, ok)
			}
			for _, name := range []string{"a", "red", "", "zzzzzzzzzz"} {
				if got, ok := impl.CertainHues(list, name, x[1]); ok || got != 0 {
					t.Error("CertainHues", i, name, got, ok)
				}
			}
		}
		if got, ok := impl.OverlapPairs(list); ok || len(got) != 0 {
			t.Error("OverlapPairs", i, got, ok)
		}
	}
}

func TestShadeText(t *testing.T) {
	for x, want := range map[impl.Shade]string{
		goodShade:   "red 0+-15 30..70",
		{Name: "a"}: "a 0+-0 0..0",
		{Name: "zzzzzzzzzz", Hue: 359, Width: 179, Dark: 100, Light: 100}: "zzzzzzzzzz 359+-179 100..100",
		{Name: "rose", Hue: 20, Width: 10, Dark: 50, Light: 100}:          "rose 20+-10 50..100",
		{Name: "ultra", Hue: 240, Width: 7, Dark: 1, Light: 9}:            "ultra 240+-7 1..9",
		{Name: "b", Hue: 1, Width: 100, Dark: 0, Light: 5}:                "b 1+-100 0..5",
	} {
		if got, ok := impl.ShadeText(x); !ok || got != want {
			t.Errorf("ShadeText(%v) = %q, %v", x, got, ok)
		}
	}
	for i, x := range badShades() {
		if got, ok := impl.ShadeText(x); ok || got != "" {
			t.Errorf("ShadeText of %d = %.40q, %v", i, got, ok)
		}
	}
}

func TestShadesChangeNoArgument(t *testing.T) {
	room := append(slices.Clone(exampleShades), shadeOf("red", 12, 179), impl.Shade{Hue: -1})
	list := room[:5]
	kept := slices.Clone(room)
	if !impl.AreShades(list) {
		t.Error("shades")
	}
	if got, ok := impl.ShadesOf(list, 12, 60); !ok || !slices.Equal(got, []string{"red", "rose"}) {
		t.Error("taken in", got, ok)
	}
	if got, ok := impl.BestShade(list, 12, 60); !ok || got != "rose" {
		t.Error("best", got, ok)
	}
	if got, ok := impl.OverlapPairs(list); !ok || len(got) != 3 {
		t.Error("pairs", got, ok)
	}
	if got, ok := impl.FreeColors(list, 60); !ok || got != 298 {
		t.Error("free", got, ok)
	}
	for i, want := range []int{7, 9, 7, 5, 0} {
		if got, ok := impl.CertainHues(list, list[i].Name, 60); !ok || got != want {
			t.Error("certain", list[i].Name, got, ok)
		}
	}
	impl.ShadesOf(room, 12, 60)
	impl.BestShade(room, 12, 60)
	impl.BestShade(list, -1, 60)
	impl.OverlapPairs(room)
	impl.FreeColors(list, -1)
	impl.CertainHues(list, "none", 50)
	impl.CertainHues(room, "red", 50)
	if !slices.Equal(room, kept) {
		t.Error("an argument was changed", room)
	}
}

func TestResultsOfShadesAreNew(t *testing.T) {
	list := slices.Clone(exampleShades)
	names, _ := impl.ShadesOf(list, 12, 60)
	pairs, _ := impl.OverlapPairs(list)
	for i := range names {
		names[i] = "changed"
	}
	want := [][]string{{"carmine", "red"}, {"orange", "rose"}, {"red", "rose"}}
	for i := range pairs {
		_ = append(pairs[i], "changed")
		if !samePairs(pairs, want) {
			t.Fatal("what was appended to one pair is in another one", i, pairs)
		}
	}
	for i := range pairs {
		pairs[i][0], pairs[i][1] = "changed", "changed"
	}
	if !slices.Equal(list, exampleShades) {
		t.Error("a changed result changed an argument", list)
	}
	if again, ok := impl.ShadesOf(list, 12, 60); !ok || !slices.Equal(again, []string{"red", "rose"}) {
		t.Error("a changed result changed what follows", again, ok)
	}
	if again, ok := impl.OverlapPairs(list); !ok || !samePairs(again, want) {
		t.Error("a changed result changed what follows", again, ok)
	}
}
