package tests

import (
	"math"
	"regexp"
	"slices"
	"strconv"
	"strings"
	"testing"

	"loop.example/g00822/impl"
)

// textsOver returns all texts of at most most bytes over an alphabet of bytes.
func textsOver(alphabet string, most int) []string {
	all := []string{""}
	last := all
	for range most {
		var next []string
		for _, s := range last {
			for i := range len(alphabet) {
				next = append(next, s+alphabet[i:i+1])
			}
		}
		all = append(all, next...)
		last = next
	}
	return all
}

var sampleInts = []int{
	0, 1, -1, 7, -7, 9, 10, -10, 11, 99, 100, -100, 101, 1000000, 1000000000, -1000000000,
	math.MaxInt32, math.MinInt32, math.MaxInt32 + 1, math.MinInt32 - 1,
	math.MaxInt64, math.MaxInt64 - 1, math.MinInt64, math.MinInt64 + 1,
}

func TestFormatInt(t *testing.T) {
	cases := []struct {
		n    int
		want string
	}{
		{0, "0"}, {1, "1"}, {-1, "-1"}, {9, "9"}, {10, "10"}, {-10, "-10"}, {1203, "1203"}, {-1203, "-1203"},
		{math.MaxInt64, "9223372036854775807"}, {math.MaxInt64 - 1, "9223372036854775806"},
		{math.MinInt64, "-9223372036854775808"}, {math.MinInt64 + 1, "-9223372036854775807"},
	}
	for _, c := range cases {
		if got := impl.FormatInt(c.n); got != c.want {
			t.Errorf("FormatInt(%d) = %q, want %q", c.n, got, c.want)
		}
	}
}

func TestIntsAreRecoveredFromTheirText(t *testing.T) {
	for _, base := range sampleInts {
		for d := -20; d <= 20; d++ {
			n := base + d
			got, ok := impl.ParseInt(impl.FormatInt(n))
			if got != n || !ok {
				t.Errorf("ParseInt(FormatInt(%d)) = %d, %v", n, got, ok)
			}
		}
	}
}

func TestParseInt(t *testing.T) {
	good := map[string]int{
		"0": 0, "5": 5, "-5": -5, "10": 10, "-120": -120,
		"9223372036854775806": math.MaxInt64 - 1, "9223372036854775807": math.MaxInt64,
		"-9223372036854775807": math.MinInt64 + 1, "-9223372036854775808": math.MinInt64,
	}
	for s, want := range good {
		if got, ok := impl.ParseInt(s); got != want || !ok {
			t.Errorf("ParseInt(%q) = %d, %v, want %d, true", s, got, ok, want)
		}
	}
	bad := []string{
		"", "-", "+", "--1", "+-1", "-+1", "+1", "+0", "-0", "00", "-00", "07", "-07", "007", "1-", "1-1",
		" ", " 1", "1 ", "- 1", "1\n", "\t1", "1.0", "1e3", "1_000", "0x10", "0b1", "0o7", "a", "1a", "a1", "/", ":", "1/", "1:",
		"9223372036854775808", "-9223372036854775809", "9223372036854775810", "10000000000000000000",
		"18446744073709551615", "18446744073709551616", "18446744073709551617", "-18446744073709551617",
		"09223372036854775807", "+9223372036854775807", "36893488147419103233",
		strings.Repeat("9", 5000), "-" + strings.Repeat("9", 5000), strings.Repeat("0", 5000) + "1",
		"\x00", "1\x00", "\x001", "\xff", "1\xff", "\xff1", "-\xff", "\xc31", "1\xe2\x80", "\xb1", "\u0661", "\uff11", "\u22121", "\ufffd",
	}
	for _, s := range bad {
		if got, ok := impl.ParseInt(s); got != 0 || ok {
			t.Errorf("ParseInt(%q) = %d, %v, want 0, false", s, got, ok)
		}
	}
}

func TestParseIntOfAllShortTexts(t *testing.T) {
	canonical := regexp.MustCompile(`^(0|-?[1-9][0-9]*)$`)
	for _, s := range textsOver("-+019 /:_\xff", 4) {
		want, wantOk := 0, canonical.MatchString(s)
		if wantOk {
			want, _ = strconv.Atoi(s)
		}
		if got, ok := impl.ParseInt(s); got != want || ok != wantOk {
			t.Errorf("ParseInt(%q) = %d, %v, want %d, %v", s, got, ok, want, wantOk)
		}
	}
}

func TestIsDigits(t *testing.T) {
	good := []string{"0", "1", "9", "00", "09", "0123456789", "9223372036854775808", strings.Repeat("5", 5000)}
	for _, s := range good {
		if !impl.IsDigits(s) {
			t.Errorf("IsDigits(%q) = false", s)
		}
	}
	bad := []string{
		"", "-", "-1", "+1", " 1", "1 ", "1\n", "a", "1a2", "12a", "a12", "1.5", "1/2",
		"\x00", "1\xff", "\xff1", "\xff", "1\xc3", "\u0661", "1\uff12", "\u00b2", "\u0130", "\U00010030", "\U00010039", "\ufffd",
	}
	for _, s := range bad {
		if impl.IsDigits(s) {
			t.Errorf("IsDigits(%q) = true", s)
		}
	}
}

func TestIsDigitsOfEachByte(t *testing.T) {
	for b := range 256 {
		want := b >= 48 && b <= 57
		for _, s := range []string{string([]byte{byte(b)}), string([]byte{byte(b), '4'}), string([]byte{'4', byte(b)})} {
			if impl.IsDigits(s) != want {
				t.Errorf("IsDigits(%q) = %v", s, !want)
			}
		}
	}
}

func TestIsName(t *testing.T) {
	good := []string{"a", "z", "m", "a0", "z9", "ab", "a1b2", "abcdefg", "abcdefgh", "a1234567", "zzzzzzzz"}
	for _, s := range good {
		if !impl.IsName(s) {
			t.Errorf("IsName(%q) = false", s)
		}
	}
	bad := []string{
		"", "0", "9", "1x", "12345678", "A", "aB", "Ab", "a_", "_a", "a b", " a", "a ", "a\n", "a-", "a.x",
		"abcdefghi", "a12345678", strings.Repeat("a", 16), strings.Repeat("a", 5000),
		"\x00", "a\x00", "\xff", "a\xff", "\xffa", "abcdefg\xff", "\u00e4", "a\u00e4", "a\u0661", "a\U00010061", "\U00010061", "\u0161", "\ufffd",
	}
	for _, s := range bad {
		if impl.IsName(s) {
			t.Errorf("IsName(%q) = true", s)
		}
	}
}

func TestIsNameOfEachByte(t *testing.T) {
	for b := range 256 {
		letter := b >= 'a' && b <= 'z'
		digit := b >= '0' && b <= '9'
		cases := map[string]bool{
			string([]byte{byte(b)}):                               letter,
			string([]byte{byte(b), 'a'}):                          letter,
			string([]byte{'a', byte(b)}):                          letter || digit,
			string([]byte{'a', byte(b), 'a'}):                     letter || digit,
			string([]byte{'a', '1', 'c', 'd', 'e', 'f', byte(b)}): letter || digit,
			"abcdefg" + string([]byte{byte(b)}):                   letter || digit,
			"abcdefgh" + string([]byte{byte(b)}):                  false,
		}
		for s, want := range cases {
			if impl.IsName(s) != want {
				t.Errorf("IsName(%q) = %v", s, !want)
			}
		}
	}
}

func TestSplitAny(t *testing.T) {
	cases := []struct {
		s, by string
		want  []string
	}{
		{"a,b c", ", ", []string{"a", "b", "c"}},
		{"abc", ",", []string{"abc"}},
		{"abc", "", []string{"abc"}},
		{"", "", []string{""}},
		{"", ",", []string{""}},
		{",", ",", []string{"", ""}},
		{",,", ",", []string{"", "", ""}},
		{",a", ",", []string{"", "a"}},
		{"a,", ",", []string{"a", ""}},
		{",a,", ",", []string{"", "a", ""}},
		{"a,,b", ",", []string{"a", "", "b"}},
		{"a, b", ", ", []string{"a", "", "b"}},
		{"a,b", ",,", []string{"a", "b"}},
		{"a,b;c", ";,", []string{"a", "b", "c"}},
		{"ab", "ab", []string{"", "", ""}},
		{"a\nb\r\n", "\n", []string{"a", "b\r", ""}},
		{"a\x00b", "\x00", []string{"a", "b"}},
		{"a\xffb", "\xff", []string{"a", "b"}},
		{"a\xffb\xfe", "\xfe", []string{"a\xffb", ""}},
		{"a\xffb", "\ufffd", []string{"a\xffb"}},
		{"a\ufffdb", "\xff", []string{"a\ufffdb"}},
		{"a\u00e9b", "\u00e9", []string{"a", "", "b"}},
		{"\u00e8", "\u00e9", []string{"", "\xa8"}},
		{"\u00e9", "\xa9", []string{"\xc3", ""}},
		{"\u00e9,\u00e9", ",", []string{"\u00e9", "\u00e9"}},
	}
	for _, c := range cases {
		if got := impl.SplitAny(c.s, c.by); !slices.Equal(got, c.want) {
			t.Errorf("SplitAny(%q, %q) = %q, want %q", c.s, c.by, got, c.want)
		}
	}
}

func TestSplitAnyAtEachByte(t *testing.T) {
	var all [256]byte
	for b := range all {
		all[b] = byte(b)
	}
	s := string(all[:])
	for b := range 256 {
		want := []string{s[:b], s[b+1:]}
		if got := impl.SplitAny(s, s[b:b+1]); !slices.Equal(got, want) {
			t.Errorf("SplitAny at byte %d: %q", b, got)
		}
	}
	if got := impl.SplitAny(s, s); len(got) != 257 || strings.Join(got, "") != "" {
		t.Errorf("SplitAny at all bytes: %q", got)
	}
}

func TestTextsAreRecoveredFromTheirParts(t *testing.T) {
	for _, s := range textsOver("a,;\xc3\xa9", 5) {
		for _, by := range []string{",", ";", "a", "\xc3", "\xa9", "|"} {
			parts := impl.SplitAny(s, by)
			if impl.Join(parts, by) != s {
				t.Errorf("Join(SplitAny(%q, %q), %q) = %q", s, by, by, impl.Join(parts, by))
			}
			if len(parts) != strings.Count(s, by)+1 {
				t.Errorf("SplitAny(%q, %q) has %d elements", s, by, len(parts))
			}
		}
		parts := impl.SplitAny(s, ";,;")
		if want := strings.Split(strings.ReplaceAll(s, ";", ","), ","); !slices.Equal(parts, want) {
			t.Errorf("SplitAny(%q, %q) = %q, want %q", s, ";,;", parts, want)
		}
	}
}

func TestSplitLines(t *testing.T) {
	cases := []struct {
		s    string
		want []string
	}{
		{"", nil},
		{"\n", []string{""}},
		{"\n\n", []string{"", ""}},
		{"a", []string{"a"}},
		{"a\n", []string{"a"}},
		{"a\nb", []string{"a", "b"}},
		{"a\nb\n", []string{"a", "b"}},
		{"a\nb\n\n", []string{"a", "b", ""}},
		{"\na", []string{"", "a"}},
		{"\n\na\n", []string{"", "", "a"}},
		{"a\n\nb", []string{"a", "", "b"}},
		{"a\n ", []string{"a", " "}},
		{"a\n\r", []string{"a", "\r"}},
		{"a\r\nb\r", []string{"a\r", "b\r"}},
		{"a\x00\n\xff\n", []string{"a\x00", "\xff"}},
		{"\xc3\n\xe2\x80\n\xf0\x9f", []string{"\xc3", "\xe2\x80", "\xf0\x9f"}},
		{"\u00e9\n\u2028\u0085\n\u010a", []string{"\u00e9", "\u2028\u0085", "\u010a"}},
	}
	for _, c := range cases {
		if got := impl.SplitLines(c.s); !slices.Equal(got, c.want) {
			t.Errorf("SplitLines(%q) = %q, want %q", c.s, got, c.want)
		}
	}
}

func TestLinesAreRecoveredFromTheirText(t *testing.T) {
	for _, s := range textsOver("a \n\xe2", 6) {
		lines := impl.SplitLines(s)
		text := ""
		for _, l := range lines {
			if strings.Contains(l, "\n") {
				t.Errorf("SplitLines(%q) = %q", s, lines)
			}
			text += l + "\n"
		}
		if text != s && (text != s+"\n" || strings.HasSuffix(s, "\n")) {
			t.Errorf("SplitLines(%q) = %q", s, lines)
		}
	}
}

func TestJoin(t *testing.T) {
	cases := []struct {
		l    []string
		by   string
		want string
	}{
		{nil, ",", ""},
		{[]string{}, ",", ""},
		{[]string{""}, ",", ""},
		{[]string{"", ""}, ",", ","},
		{[]string{"a"}, ",", "a"},
		{[]string{"a", "b", "c"}, "-", "a-b-c"},
		{[]string{"a", "b", "c"}, "", "abc"},
		{[]string{"a", "", "c"}, ", ", "a, , c"},
		{[]string{"", "a", ""}, ";", ";a;"},
		{[]string{"a,b", "c"}, ",", "a,b,c"},
		{[]string{"\xff", "\x00"}, "\xc3", "\xff\xc3\x00"},
		{[]string{"\xc3", "\xa9"}, "", "\u00e9"},
	}
	for _, c := range cases {
		if got := impl.Join(c.l, c.by); got != c.want {
			t.Errorf("Join(%q, %q) = %q, want %q", c.l, c.by, got, c.want)
		}
	}
}

func TestJoinKeepsItsArgument(t *testing.T) {
	room := []string{"a", "b", "c", "d"}
	impl.Join(room[:2], "-")
	if !slices.Equal(room, []string{"a", "b", "c", "d"}) {
		t.Errorf("Join changed the list or what is behind it: %q", room)
	}
}

func TestSplitsAreNewEachTime(t *testing.T) {
	splits := map[string]func() []string{
		"SplitAny":   func() []string { return impl.SplitAny("a b", " ") },
		"SplitLines": func() []string { return impl.SplitLines("a\nb\n") },
	}
	for name, split := range splits {
		first := split()
		first[0], first[1] = "x", "y"
		if got := split(); !slices.Equal(got, []string{"a", "b"}) {
			t.Errorf("%s after a change of an earlier result: %q", name, got)
		}
	}
}

func TestPadZeros(t *testing.T) {
	long := strings.Repeat("x", 2000)
	cases := []struct {
		s    string
		n    int
		want string
	}{
		{"7", 3, "007"}, {"7", 2, "07"}, {"7", 1, "7"}, {"7", 0, "7"}, {"7", -1, "7"}, {"7", math.MinInt64, "7"},
		{"", 0, ""}, {"", 1, "0"}, {"", 3, "000"}, {"", -1, ""}, {"", -2000, ""},
		{"123", 2, "123"}, {"123", 3, "123"}, {"123", 4, "0123"}, {"-7", 4, "00-7"}, {"007", 4, "0007"},
		{"\u00e9", 2, "\u00e9"}, {"\u00e9", 3, "0\u00e9"}, {"\xff", 3, "00\xff"}, {"\x00", 2, "0\x00"}, {" ", 2, "0 "},
		{"7", 1999, strings.Repeat("0", 1998) + "7"},
		{"7", 2000, strings.Repeat("0", 1999) + "7"},
		{"7", 2001, "7"}, {"7", 2002, "7"}, {"7", 1000000000, "7"}, {"7", math.MaxInt64, "7"}, {"7", math.MaxInt64 - 1, "7"},
		{"", 2000, strings.Repeat("0", 2000)}, {"", 2001, ""}, {"", math.MaxInt64, ""},
		{long, 1999, long}, {long, 2000, long}, {long, 2001, long}, {long[1:], 2000, "0" + long[1:]}, {long + "x", 2000, long + "x"},
		{long + "x", 2002, long + "x"}, {long, -2001, long},
	}
	for _, c := range cases {
		if got := impl.PadZeros(c.s, c.n); got != c.want {
			t.Errorf("PadZeros of %d bytes to %d: %d bytes, want %d: %.20q", len(c.s), c.n, len(got), len(c.want), got)
		}
	}
}

func TestPadZerosOfEachLength(t *testing.T) {
	for n := -5; n <= 2005; n++ {
		got := impl.PadZeros("12", n)
		zeros := 0
		if n > 2 && n <= 2000 {
			zeros = n - 2
		}
		if got != strings.Repeat("0", zeros)+"12" {
			t.Errorf("PadZeros(\"12\", %d) has %d bytes", n, len(got))
		}
	}
}
