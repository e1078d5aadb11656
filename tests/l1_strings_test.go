package tests

import (
	"bytes"
	"math"
	"math/rand"
	"regexp"
	"slices"
	"strconv"
	"strings"
	"testing"

	"loop.example/g01062/impl"
)

func TestConstantsOfStrings(t *testing.T) {
	if impl.MaxString != 4000 || impl.MaxDecimal != 999999 {
		t.Error("limits", impl.MaxString, impl.MaxDecimal)
	}
}

func TestFormatInt(t *testing.T) {
	for n, want := range map[int]string{
		0: "0", 1: "1", -1: "-1", 9: "9", 10: "10", -12: "-12", 100: "100", -100000: "-100000",
		999999: "999999", -999999: "-999999",
	} {
		if s, ok := impl.FormatInt(n); !ok || s != want {
			t.Errorf("FormatInt(%d) = %q, %v", n, s, ok)
		}
	}
	for _, n := range []int{1000000, -1000000, 1 << 32, math.MaxInt, math.MinInt} {
		if s, ok := impl.FormatInt(n); ok || s != "" {
			t.Errorf("FormatInt(%d) = %q, %v", n, s, ok)
		}
	}
}

func TestDecimalsRoundTrip(t *testing.T) {
	for n := -impl.MaxDecimal; n <= impl.MaxDecimal; n++ {
		s, ok := impl.FormatInt(n)
		if !ok || s != strconv.Itoa(n) {
			t.Fatalf("FormatInt(%d) = %q, %v", n, s, ok)
		}
		if m, ok := impl.ParseInt(s); !ok || m != n {
			t.Fatalf("ParseInt(%q) = %d, %v", s, m, ok)
		}
	}
}

func TestParseIntRefuses(t *testing.T) {
	for _, s := range []string{
		"", "-", "+", "-0", "+0", "+1", "+999999", "00", "01", "-01", "007", "--1", "-+1", "1-", "1000000",
		"-1000000", "0999999", " 1", "1 ", "1\n", "\x001", "1\x00", "1x", "x1", "0x1", "1_0", "1e3", "1.0", "1,0",
		"\u0661", "\uff11", "\xff", "9223372036854775807", "9223372036854775808", "-9223372036854775808",
		"18446744073709551616", "18446744073709551617", strings.Repeat("0", 5000), strings.Repeat("9", 5000),
	} {
		if n, ok := impl.ParseInt(s); ok || n != 0 {
			t.Errorf("ParseInt(%.30q) = %d, %v", s, n, ok)
		}
	}
}

func TestParseIntTakesOnlyWhatFormatIntWrites(t *testing.T) {
	written := regexp.MustCompile(`^(0|-?[1-9][0-9]{0,5})$`)
	texts := []string{""}
	for range 4 {
		for _, s := range texts {
			for _, c := range []string{"-", "+", "0", "1", "9", " ", "x", "#", "\x00", "\xff"} {
				texts = append(texts, s+c)
			}
		}
		slices.Sort(texts)
		texts = slices.Compact(texts)
	}
	for _, s := range texts {
		n, ok := impl.ParseInt(s)
		if ok != written.MatchString(s) || !ok && n != 0 || ok && strconv.Itoa(n) != s {
			t.Fatalf("ParseInt(%q) = %d, %v", s, n, ok)
		}
	}
}

func TestSplitString(t *testing.T) {
	for _, x := range []struct {
		s, sep string
		want   []string
	}{
		{"", ",", []string{""}},
		{",", ",", []string{"", ""}},
		{",,,", ",", []string{"", "", "", ""}},
		{"a", ",", []string{"a"}},
		{"a,,b", ",", []string{"a", "", "b"}},
		{",a,b", ",", []string{"", "a", "b"}},
		{"a,b,", ",", []string{"a", "b", ""}},
		{"a b  c", " ", []string{"a", "b", "", "c"}},
		{"a,b", ";", []string{"a,b"}},
		{"one\ntwo\n", "\n", []string{"one", "two", ""}},
		{"a\x00b", "\x00", []string{"a", "b"}},
		{"a\xffb\xff", "\xff", []string{"a", "b", ""}},
		{"\u00e9", "\xc3", []string{"", "\xa9"}},
		{"\u00e9", "\xa9", []string{"\xc3", ""}},
	} {
		if got, ok := impl.SplitString(x.s, x.sep); !ok || !slices.Equal(got, x.want) {
			t.Errorf("SplitString(%q, %q) = %q, %v", x.s, x.sep, got, ok)
		}
	}
}

func TestSplitStringAtItsLimits(t *testing.T) {
	for _, s := range []string{strings.Repeat(",", impl.MaxString), strings.Repeat("a", impl.MaxString)} {
		got, ok := impl.SplitString(s, ",")
		if !ok || len(got) != strings.Count(s, ",")+1 || strings.Join(got, ",") != s {
			t.Error("longest string", len(got), ok)
		}
		if got, ok := impl.SplitString(s+"a", ","); ok || len(got) != 0 {
			t.Error("too long", len(got), ok)
		}
	}
	for _, sep := range []string{"", ",,", ",;", "ab", "\u00e9", strings.Repeat(",", 5000)} {
		for _, s := range []string{"", "a", ",", "a,,b", "ab"} {
			if got, ok := impl.SplitString(s, sep); ok || len(got) != 0 {
				t.Errorf("SplitString(%q, %.10q) = %q, %v", s, sep, got, ok)
			}
		}
	}
}

func TestJoinStrings(t *testing.T) {
	for _, x := range []struct {
		parts []string
		sep   string
		want  string
	}{
		{[]string{""}, ",", ""},
		{[]string{"", ""}, ",", ","},
		{[]string{"a"}, ",", "a"},
		{[]string{"a", "", "b"}, ";", "a;;b"},
		{[]string{"a,b", "c"}, ";", "a,b;c"},
		{[]string{"", "a", ""}, "#", "#a#"},
		{[]string{"\xc3", "\xa9"}, "\xff", "\xc3\xff\xa9"},
		{[]string{"", "\xa9"}, "\xc3", "\u00e9"},
	} {
		if got, ok := impl.JoinStrings(x.parts, x.sep); !ok || got != x.want {
			t.Errorf("JoinStrings(%q, %q) = %q, %v", x.parts, x.sep, got, ok)
		}
	}
}

func TestJoinStringsRefuses(t *testing.T) {
	long := strings.Repeat("a", impl.MaxString)
	for _, x := range []struct {
		parts []string
		sep   string
	}{
		{nil, ","},
		{[]string{}, ","},
		{nil, ""},
		{[]string{"a"}, ""},
		{[]string{"a", "b"}, ""},
		{[]string{"a"}, ",,"},
		{[]string{"a", "b"}, ",;"},
		{[]string{"a"}, "\u00e9"},
		{[]string{","}, ","},
		{[]string{"a;b"}, ";"},
		{[]string{";a", "b"}, ";"},
		{[]string{"a", "b;"}, ";"},
		{[]string{"a", "b;c", "d"}, ";"},
		{[]string{"\u00e9"}, "\xa9"},
		{[]string{"a", "b\x00"}, "\x00"},
		{[]string{long + "a"}, ","},
		{[]string{long, ""}, ","},
		{[]string{"", long}, ","},
		{[]string{long[1:], "a"}, ","},
		{[]string{long, long, long}, ","},
		{make([]string, impl.MaxString+2), ","},
		{make([]string, 1000000), ","},
	} {
		if got, ok := impl.JoinStrings(x.parts, x.sep); ok || got != "" {
			t.Errorf("JoinStrings of %d parts %.20q with %q = %.20q, %v", len(x.parts), x.parts[:min(3, len(x.parts))], x.sep, got, ok)
		}
	}
}

func TestJoinStringsAtItsLimit(t *testing.T) {
	long := strings.Repeat("a", impl.MaxString)
	for _, parts := range [][]string{
		{long},
		{long[1:], ""},
		{"", long[1:]},
		{long[2:], "b"},
		{long[:1999], long[:2000]},
		make([]string, impl.MaxString+1),
	} {
		got, ok := impl.JoinStrings(parts, ",")
		if !ok || len(got) != impl.MaxString || got != strings.Join(parts, ",") {
			t.Errorf("%d parts: %d bytes, %v", len(parts), len(got), ok)
		}
	}
}

// fewBytes are few, so that separators occur often in texts of them.
const fewBytes = "a,;# \n\x00\xff"

// textOf makes a text of fewBytes with at most a number of bytes.
func textOf(r *rand.Rand, most int) string {
	b := make([]byte, r.Intn(most+1))
	for i := range b {
		b[i] = fewBytes[r.Intn(len(fewBytes))]
	}
	return string(b)
}

func TestSplittingRoundTrips(t *testing.T) {
	r := rand.New(rand.NewSource(1))
	for range 20000 {
		i := r.Intn(len(fewBytes))
		s, sep := textOf(r, 12), fewBytes[i:i+1]
		parts, ok := impl.SplitString(s, sep)
		if !ok || len(parts) != strings.Count(s, sep)+1 {
			t.Fatalf("SplitString(%q, %q) = %q, %v", s, sep, parts, ok)
		}
		if back, ok := impl.JoinStrings(parts, sep); !ok || back != s {
			t.Fatalf("JoinStrings(%q, %q) = %q, %v", parts, sep, back, ok)
		}
	}
}

func TestJoiningRoundTripsOrFails(t *testing.T) {
	r := rand.New(rand.NewSource(2))
	for range 20000 {
		parts := make([]string, 1+r.Intn(4))
		within := false
		for i := range parts {
			parts[i] = textOf(r, 3)
			within = within || strings.Contains(parts[i], ",")
		}
		s, ok := impl.JoinStrings(parts, ",")
		if ok == within || within && s != "" {
			t.Fatalf("JoinStrings(%q) = %q, %v", parts, s, ok)
		}
		if back, fine := impl.SplitString(s, ","); ok && (!fine || !slices.Equal(back, parts)) {
			t.Fatalf("SplitString(%q) = %q, %v, not %q", s, back, fine, parts)
		}
	}
}

func TestEverySeparator(t *testing.T) {
	for c := range 256 {
		sep := string([]byte{byte(c)})
		other := string([]byte{byte(c + 1)})
		s := other + sep + sep + other
		parts, ok := impl.SplitString(s, sep)
		if !ok || !slices.Equal(parts, []string{other, "", other}) {
			t.Errorf("SplitString(%q, %q) = %q, %v", s, sep, parts, ok)
		}
		if back, ok := impl.JoinStrings(parts, sep); !ok || back != s {
			t.Errorf("JoinStrings(%q, %q) = %q, %v", parts, sep, back, ok)
		}
		if back, ok := impl.JoinStrings([]string{other, s}, sep); ok || back != "" {
			t.Errorf("JoinStrings with %q within = %q, %v", sep, back, ok)
		}
	}
}

func TestLessString(t *testing.T) {
	sorted := []string{
		"", "\x00", "\x00\x00", " ", "#", "-1", "10", "2", "A", "B", "a", "a\x00", "aa", "ab", "b", "ba",
		"z", "\x7f", "\x80", "\u00e9", "\xc3\xaa", "\xff", "\xff\x00", "\xff\xff",
	}
	for i, a := range sorted {
		for j, b := range sorted {
			if impl.LessString(a, b) != (i < j) {
				t.Errorf("LessString(%q, %q) is %v", a, b, i >= j)
			}
		}
	}
	long := strings.Repeat("a", 2*impl.MaxString)
	if !impl.LessString(long, long+"a") || impl.LessString(long, long) || !impl.LessString(long+"a", long+"b") {
		t.Error("long strings")
	}
}

// plainChecksum follows the sentence of the document, in a type in which nothing can overflow here.
func plainChecksum(s string) int {
	h := uint64(7)
	for _, c := range []byte(s) {
		h = (41*h + uint64(c) + 1) % 999979
	}
	return int(h)
}

func TestChecksum(t *testing.T) {
	for s, want := range map[string]int{
		"": 7, "a": 385, "ab": 385*41 + 99, "\x00": 288, "\xff": 543, "#": 323, "\u00e9": (287+196)*41 + 170,
	} {
		if n, ok := impl.Checksum(s); !ok || n != want {
			t.Errorf("Checksum(%q) = %d, %v", s, n, ok)
		}
	}
	r := rand.New(rand.NewSource(3))
	for range 300 {
		s := textOf(r, impl.MaxString)
		if n, ok := impl.Checksum(s); !ok || n != plainChecksum(s) || n < 0 || n >= 999979 {
			t.Fatalf("Checksum(%.30q) = %d, %v", s, n, ok)
		}
	}
	for _, c := range []string{"\x00", "a", "#", "\xff"} {
		s := strings.Repeat(c, impl.MaxString)
		if n, ok := impl.Checksum(s); !ok || n != plainChecksum(s) {
			t.Errorf("the longest of %q: %d, %v", c, n, ok)
		}
		if n, ok := impl.Checksum(s + c); ok || n != 0 {
			t.Errorf("too long of %q: %d, %v", c, n, ok)
		}
	}
}

func TestAppendChecksum(t *testing.T) {
	for s, want := range map[string]string{
		"": "#7", "a": "a#385", "0": "0#336", "\x00": "\x00#288", "\xff": "\xff#543", "a b\n": "a b\n#" + strconv.Itoa(plainChecksum("a b\n")),
	} {
		if got, ok := impl.AppendChecksum(s); !ok || got != want {
			t.Errorf("AppendChecksum(%q) = %q, %v", s, got, ok)
		}
		if got, ok := impl.VerifyChecksum(want); !ok || got != s {
			t.Errorf("VerifyChecksum(%q) = %q, %v", want, got, ok)
		}
	}
	for _, s := range []string{"#", "a#", "#a", "a#b", "##", "a#385", strings.Repeat("#", impl.MaxString)} {
		if got, ok := impl.AppendChecksum(s); ok || got != "" {
			t.Errorf("AppendChecksum(%.30q) = %.30q, %v", s, got, ok)
		}
	}
}

func TestChecksummedStringsAtTheirLimit(t *testing.T) {
	fitting, tooLong := 0, 0
	for _, c := range []string{"a", "b", "c", "\x00", "\xff"} {
		for n := impl.MaxString - 8; n <= impl.MaxString+1; n++ {
			s := strings.Repeat(c, n)
			want := s + "#" + strconv.Itoa(plainChecksum(s))
			fits := len(want) <= impl.MaxString
			if len(want) == impl.MaxString {
				fitting++
			}
			if len(want) == impl.MaxString+1 {
				tooLong++
			}
			got, ok := impl.AppendChecksum(s)
			if ok != fits || ok && got != want || !ok && got != "" {
				t.Errorf("AppendChecksum of %d times %q: %d bytes, %v", n, c, len(got), ok)
			}
			back, ok := impl.VerifyChecksum(want)
			if ok != fits || ok && back != s || !ok && back != "" {
				t.Errorf("VerifyChecksum of %d bytes: %d bytes, %v", len(want), len(back), ok)
			}
		}
	}
	if fitting == 0 || tooLong == 0 {
		t.Error("no result that just fits, or none that is just too long", fitting, tooLong)
	}
}

func TestVerifyChecksumRefuses(t *testing.T) {
	for _, s := range []string{
		"", "a", "#", "##", "7", "a385", "a#", "#a", "a#384", "a#386", "b#385", "a#0385", "a#+385", "a#-385", "a# 385",
		"a#385 ", "a#385\n", "a#3850", "a#38", "A#385", "a##385", "#a#385", "a#385#", "a#385#1", "a#385#385",
		"a#1000364", "#07", "#-7", "#0", "#999986", "#7#", "#7#323", "a\x00#385", strings.Repeat("#", 5000),
		strings.Repeat("a", 5000),
	} {
		if got, ok := impl.VerifyChecksum(s); ok || got != "" {
			t.Errorf("VerifyChecksum(%.30q) = %.30q, %v", s, got, ok)
		}
	}
}

// checkChanges changes each byte of a checksummed string by each of some amounts.
func checkChanges(t *testing.T, sealed string, amounts []byte) {
	t.Helper()
	b := []byte(sealed)
	for i, c := range b {
		for _, d := range amounts {
			b[i] = c + d
			if got, ok := impl.VerifyChecksum(string(b)); ok || got != "" {
				t.Fatalf("byte %d of %.40q changed to %q: %.40q, %v", i, sealed, b[i], got, ok)
			}
		}
		b[i] = c
	}
}

func TestEachChangedByteIsDetected(t *testing.T) {
	var all []byte
	for d := 1; d < 256; d++ {
		all = append(all, byte(d))
	}
	r := rand.New(rand.NewSource(4))
	texts := []string{"", "a", "0", "7", "385", "-", "\x00", "\xff\xff", "\u00e9\u20ac", "get 1 5@12", strings.Repeat("z", 90)}
	for range 150 {
		texts = append(texts, strings.ReplaceAll(textOf(r, 40), "#", "\""))
	}
	for _, s := range texts {
		sealed, ok := impl.AppendChecksum(s)
		if back, fine := impl.VerifyChecksum(sealed); !ok || !fine || back != s {
			t.Fatalf("%q: %q, %v, %q, %v", s, sealed, ok, back, fine)
		}
		checkChanges(t, sealed, all)
	}
	sealed, ok := impl.AppendChecksum(strings.Repeat("a", impl.MaxString-7))
	if !ok {
		t.Fatal("a long string")
	}
	checkChanges(t, sealed, []byte{1, 37, 255})
}

func TestStringsChangeNoArgument(t *testing.T) {
	room := []string{"a", "", "b", "x,y", "z"}
	kept := slices.Clone(room)
	parts := room[:3]
	for _, sep := range []string{",", "", "a", ",,"} {
		impl.JoinStrings(parts, sep)
	}
	if s, ok := impl.JoinStrings(parts, ","); !ok || s != "a,,b" {
		t.Error("elements beyond the length were read", s)
	}
	if !slices.Equal(room, kept) {
		t.Error("JoinStrings changed its argument", room)
	}
	s := string(bytes.Repeat([]byte("a,b;"), 10))
	before := strings.Clone(s)
	first, _ := impl.SplitString(s, ",")
	for i := range first {
		first[i] = "changed"
	}
	second, ok := impl.SplitString(s, ",")
	if !ok || strings.Join(second, ",") != before || s != before {
		t.Error("a changed result changed what follows", second)
	}
}

func TestStringsReturnForAllArguments(t *testing.T) {
	huge := strings.Repeat("1,\xff#", 300000)
	for _, s := range []string{huge, huge[:impl.MaxString+1], "\xff\xfe", "\xed\xa0\x80", ""} {
		long := len(s) > impl.MaxString
		if n, ok := impl.ParseInt(s); ok || n != 0 {
			t.Error("ParseInt", n, ok)
		}
		if l, ok := impl.SplitString(s, s); ok || len(l) != 0 {
			t.Error("SplitString", len(l), ok)
		}
		if x, ok := impl.JoinStrings([]string{s}, s); ok || x != "" {
			t.Error("JoinStrings", len(x), ok)
		}
		if n, ok := impl.Checksum(s); ok == long || long && n != 0 {
			t.Error("Checksum", n, ok)
		}
		if x, ok := impl.AppendChecksum(s); ok == long || long && x != "" {
			t.Error("AppendChecksum", len(x), ok)
		}
		if x, ok := impl.VerifyChecksum(s); ok || x != "" {
			t.Error("VerifyChecksum", len(x), ok)
		}
		if impl.LessString(s, s) {
			t.Error("LessString")
		}
	}
}
