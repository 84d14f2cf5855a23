package tests

import (
	"fmt"
	"math"
	"slices"
	"strings"
	"testing"

	"loop.example/g00693/impl"
)

func TestMaxText(t *testing.T) {
	if impl.MaxText != 20000 {
		t.Error(impl.MaxText)
	}
}

func TestDecText(t *testing.T) {
	cases := []struct {
		n    int
		want string
	}{
		{0, "0"},
		{1, "1"},
		{-1, "-1"},
		{9, "9"},
		{10, "10"},
		{-10, "-10"},
		{120, "120"},
		{-120, "-120"},
		{1005, "1005"},
		{999999999, "999999999"},
		{1000000000, "1000000000"},
		{-999999999, "-999999999"},
		{math.MaxInt, "9223372036854775807"},
		{math.MinInt, "-9223372036854775808"},
		{math.MinInt + 1, "-9223372036854775807"},
	}
	for _, c := range cases {
		if got := impl.DecText(c.n); got != c.want {
			t.Errorf("DecText(%d) = %q, want %q", c.n, got, c.want)
		}
	}
}

func TestDecTextComesBack(t *testing.T) {
	check := func(n int) {
		if got := impl.ReadDec(impl.DecText(n)); got != n {
			t.Errorf("ReadDec(DecText(%d)) = %d", n, got)
		}
	}
	for n := range 12000 {
		check(n)
	}
	for ten := 10; ten <= 100000000; ten *= 10 {
		for n := ten - 2; n <= ten+2; n++ {
			check(n)
		}
		check(ten * 9)
	}
	for n := 999999000; n <= 999999999; n++ {
		check(n)
	}
}

func TestReadDecRefuses(t *testing.T) {
	texts := []string{
		"", "-", "+", "-1", "-0", "+1", "00", "01", "012", "000000001", "000000000", "0000000000",
		"1000000000", "0999999999", "9999999999", "4294967296", "9223372036854775807",
		"9223372036854775808", "18446744073709551616", "18446744073709551617",
		strings.Repeat("0", 30), strings.Repeat("9", 300), strings.Repeat("7", impl.MaxText+1),
		" 1", "1 ", "1 2", "\t1", "1\t", "1\n", "\n", " ", "\x00", "1\x00",
		"A", "a", "F", "1A", "1f", "0x1", "1_0", "1.0", "1e2", "/", ":", "1/", "1:",
		"\xff", "1\xff", "\xc3\x28", "\u0661", "\uff11", "1\u00b2", "\ufffd",
	}
	for _, s := range texts {
		if got := impl.ReadDec(s); got != -1 {
			t.Errorf("ReadDec(%q) = %d", s, got)
		}
	}
	for n := -1; n > -300; n-- {
		if got := impl.ReadDec(impl.DecText(n)); got != -1 {
			t.Errorf("ReadDec of %d = %d", n, got)
		}
	}
	for _, n := range []int{1000000000, 1000000001, 1 << 32, math.MaxInt, math.MinInt} {
		if got := impl.ReadDec(impl.DecText(n)); got != -1 {
			t.Errorf("ReadDec of %d = %d", n, got)
		}
	}
}

// What is read has just that text, and what isn't read is no text of a number.
func TestReadDecOfAllShortTexts(t *testing.T) {
	texts := map[string]int{}
	for n := range 10000 {
		texts[fmt.Sprint(n)] = n
	}
	for _, s := range textsOf("0123456789-+A \n\xff", 4) {
		want, ok := texts[s]
		if !ok {
			want = -1
		}
		if got := impl.ReadDec(s); got != want {
			t.Fatalf("ReadDec(%q) = %d, want %d", s, got, want)
		}
	}
}

func TestHexText(t *testing.T) {
	cases := []struct {
		n, digits int
		want      string
	}{
		{0, 1, "0"},
		{0, 8, "00000000"},
		{9, 1, "9"},
		{10, 1, "A"},
		{15, 1, "F"},
		{16, 1, "0"},
		{10, 2, "0A"},
		{255, 2, "FF"},
		{255, 4, "00FF"},
		{256, 2, "00"},
		{4660, 4, "1234"},
		{65535, 4, "FFFF"},
		{65536, 4, "0000"},
		{65536 + 171, 3, "0AB"},
		{0x89ABCDEF, 8, "89ABCDEF"},
		{0x789ABCDEF, 8, "89ABCDEF"},
		{0x100000000, 8, "00000000"},
		{math.MaxInt, 8, "FFFFFFFF"},
		{math.MaxInt, 1, "F"},
		{math.MaxInt - 1, 3, "FFE"},
	}
	for _, c := range cases {
		if got := impl.HexText(c.n, c.digits); got != c.want {
			t.Errorf("HexText(%d, %d) = %q, want %q", c.n, c.digits, got, c.want)
		}
	}
}

func TestHexTextRefuses(t *testing.T) {
	for _, n := range []int{-1, -2, -255, -256, -65536, math.MinInt, math.MinInt + 1} {
		for digits := -3; digits <= 12; digits++ {
			if got := impl.HexText(n, digits); got != "" {
				t.Errorf("HexText(%d, %d) = %q", n, digits, got)
			}
		}
	}
	for _, n := range []int{0, 1, 255, math.MaxInt} {
		for _, digits := range []int{0, -1, -8, 9, 10, 16, math.MaxInt, math.MinInt} {
			if got := impl.HexText(n, digits); got != "" {
				t.Errorf("HexText(%d, %d) = %q", n, digits, got)
			}
		}
	}
}

func TestHexTextComesBack(t *testing.T) {
	for n := range 65536 {
		s := impl.HexText(n, 4)
		if s != fmt.Sprintf("%04X", n) {
			t.Fatalf("HexText(%d, 4) = %q", n, s)
		}
		if got := impl.ReadHex(s, 4); got != n {
			t.Fatalf("ReadHex(%q, 4) = %d", s, got)
		}
	}
	for digits := 1; digits <= 8; digits++ {
		size := 1 << (4 * digits)
		for _, n := range []int{0, 1, 9, 10, 15, size / 3, size / 2, size - 2, size - 1} {
			s := impl.HexText(n, digits)
			if len(s) != digits || impl.ReadHex(s, digits) != n%size {
				t.Errorf("HexText(%d, %d) = %q, read as %d", n, digits, s, impl.ReadHex(s, digits))
			}
			if impl.HexText(n+size, digits) != s || impl.HexText(n+5*size, digits) != s {
				t.Errorf("HexText of %d digits looks at more than these of %d", digits, n)
			}
		}
	}
}

func TestReadHexRefuses(t *testing.T) {
	cases := []struct {
		s      string
		digits int
	}{
		{"", 0}, {"", 1}, {"", 8}, {"", 9}, {"", -1}, {"", math.MinInt}, {"", math.MaxInt},
		{"0", 0}, {"0", -1}, {"F", 2}, {"FF", 1}, {"FF", 4}, {"00FF", 2}, {"00FF", 3}, {"00FF", 5},
		{"FFFFFFFF", 7}, {"0FFFFFFF", 7}, {"123456789", 9}, {"123456789", 8}, {"012345678", 9},
		{"0123456789ABCDEF", 16}, {"10000000000000000", 17}, {strings.Repeat("A", impl.MaxText+1), impl.MaxText + 1},
		{"a", 1}, {"f", 1}, {"ff", 2}, {"Ff", 2}, {"12aB", 4}, {"0x12", 4}, {"$123", 4}, {"12H4", 4},
		{"G", 1}, {"g", 1}, {"@", 1}, {"/", 1}, {":", 1}, {"`", 1}, {"?", 1}, {"-1", 2}, {"+1", 2}, {"-", 1},
		{" 1", 2}, {"1 ", 2}, {"1\n", 2}, {"\t", 1}, {"\x00", 1}, {"\xff", 1}, {"A\xff", 2}, {"1_0", 3},
		{"\uff11", 1}, {"\uff11", 3}, {"\u0661", 2}, {"\uff21", 3}, {"\ufffd", 3},
	}
	for _, c := range cases {
		if got := impl.ReadHex(c.s, c.digits); got != -1 {
			t.Errorf("ReadHex(%.20q, %d) = %d", c.s, c.digits, got)
		}
	}
}

func TestReadHexOfAllBytes(t *testing.T) {
	for first := range 256 {
		for second := range 256 {
			s := string([]byte{byte(first), byte(second)})
			high := strings.IndexByte("0123456789ABCDEF", byte(first))
			low := strings.IndexByte("0123456789ABCDEF", byte(second))
			want := -1
			if high >= 0 && low >= 0 {
				want = high*16 + low
			}
			if got := impl.ReadHex(s, 2); got != want {
				t.Fatalf("ReadHex(%q, 2) = %d, want %d", s, got, want)
			}
			if impl.ReadHex(s, 1) != -1 || impl.ReadHex(s, 3) != -1 {
				t.Fatalf("ReadHex(%q) by another number of digits", s)
			}
		}
	}
}

func TestReadHexGreatest(t *testing.T) {
	if impl.ReadHex("FFFFFFFF", 8) != 4294967295 || impl.ReadHex("80000000", 8) != 2147483648 || impl.ReadHex("00000000", 8) != 0 {
		t.Error("eight digits")
	}
}

func TestLines(t *testing.T) {
	cases := []struct {
		s    string
		want []string
	}{
		{"", nil},
		{"\n", []string{""}},
		{"\n\n", []string{"", ""}},
		{"\n\n\n", []string{"", "", ""}},
		{"a", []string{"a"}},
		{"a\n", []string{"a"}},
		{"a\n\n", []string{"a", ""}},
		{"\na", []string{"", "a"}},
		{"\na\n", []string{"", "a"}},
		{"a\nb", []string{"a", "b"}},
		{"a\nb\n", []string{"a", "b"}},
		{"a\n\nb", []string{"a", "", "b"}},
		{"a\n\n\nb\n\n", []string{"a", "", "", "b", ""}},
		{" ", []string{" "}},
		{" \n\t\n ", []string{" ", "\t", " "}},
		{"a\r\nb\r", []string{"a\r", "b\r"}},
		{"a b\tc\vd\fe", []string{"a b\tc\vd\fe"}},
		{"\u0085\u2028\n\u2029", []string{"\u0085\u2028", "\u2029"}},
		{"\xff\n\xfe", []string{"\xff", "\xfe"}},
		{"\xe2\n\x82\n\xac", []string{"\xe2", "\x82", "\xac"}},
		{"\xf0\x9f\n\x98\x80\n", []string{"\xf0\x9f", "\x98\x80"}},
		{"\x00\n\x00", []string{"\x00", "\x00"}},
		{"\u010a\n\u0a0a", []string{"\u010a", "\u0a0a"}},
	}
	for _, c := range cases {
		if got := impl.Lines(c.s); !slices.Equal(got, c.want) {
			t.Errorf("Lines(%q) = %q, want %q", c.s, got, c.want)
		}
	}
}

func TestLinesOfAllShortTexts(t *testing.T) {
	for _, s := range textsOf("a\n \r\xff\xe2", 6) {
		got := impl.Lines(s)
		again := ""
		for _, line := range got {
			if strings.Contains(line, "\n") {
				t.Fatalf("Lines(%q) = %q: a newline within a line", s, got)
			}
			again += line + "\n"
		}
		want := s
		if s != "" && !strings.HasSuffix(s, "\n") {
			want += "\n"
		}
		if again != want {
			t.Fatalf("Lines(%q) = %q", s, got)
		}
	}
}

func TestLinesOfLongTexts(t *testing.T) {
	for _, n := range []int{impl.MaxText - 1, impl.MaxText, impl.MaxText + 1, 3 * impl.MaxText} {
		if got := impl.Lines(strings.Repeat("\n", n)); len(got) != n {
			t.Errorf("%d newlines: %d lines", n, len(got))
		}
		long := strings.Repeat("x", n)
		if got := impl.Lines(long); len(got) != 1 || got[0] != long {
			t.Errorf("a line of %d bytes", n)
		}
	}
}

func TestWords(t *testing.T) {
	cases := []struct {
		s    string
		want []string
	}{
		{"", nil},
		{" ", nil},
		{"\t", nil},
		{" \t \t\t  ", nil},
		{"a", []string{"a"}},
		{"abc", []string{"abc"}},
		{" a", []string{"a"}},
		{"a ", []string{"a"}},
		{"\ta", []string{"a"}},
		{"a\t", []string{"a"}},
		{"  a\t", []string{"a"}},
		{"a b", []string{"a", "b"}},
		{"a\tb", []string{"a", "b"}},
		{"a \t b", []string{"a", "b"}},
		{" a\tbc  d", []string{"a", "bc", "d"}},
		{"\t \ta \tb\t c \t", []string{"a", "b", "c"}},
		{"a a a", []string{"a", "a", "a"}},
		{"b a", []string{"b", "a"}},
		{"\n", []string{"\n"}},
		{"a\nb", []string{"a\nb"}},
		{"a \n b", []string{"a", "\n", "b"}},
		{"a\rb\vc\fd\x00e", []string{"a\rb\vc\fd\x00e"}},
		{"a\u00a0b\u2003c\u3000d", []string{"a\u00a0b\u2003c\u3000d"}},
		{"\u0085 \u0120\t\u0109", []string{"\u0085", "\u0120", "\u0109"}},
		{"\xff \xfe\t\x80", []string{"\xff", "\xfe", "\x80"}},
		{"\xe2 \x82\t\xac", []string{"\xe2", "\x82", "\xac"}},
		{"\xe2\x82 \xac", []string{"\xe2\x82", "\xac"}},
		{"\xf0\x9f\t\x98\x80 ", []string{"\xf0\x9f", "\x98\x80"}},
	}
	for _, c := range cases {
		if got := impl.Words(c.s); !slices.Equal(got, c.want) {
			t.Errorf("Words(%q) = %q, want %q", c.s, got, c.want)
		}
	}
}

func TestWordsOfAllShortTexts(t *testing.T) {
	for _, s := range textsOf("ab \t\n\xff\xe2", 6) {
		want := strings.Split(strings.ReplaceAll(s, "\t", " "), " ")
		want = slices.DeleteFunc(want, func(w string) bool { return w == "" })
		if got := impl.Words(s); !slices.Equal(got, want) {
			t.Fatalf("Words(%q) = %q, want %q", s, got, want)
		}
	}
}

func TestWordsOfEachByte(t *testing.T) {
	for b := range 256 {
		s := "x" + string([]byte{byte(b)}) + "y"
		want := []string{s}
		if b == 32 || b == 9 {
			want = []string{"x", "y"}
		}
		if got := impl.Words(s); !slices.Equal(got, want) {
			t.Errorf("Words(%q) = %q, want %q", s, got, want)
		}
	}
}

func TestWordsOfLongTexts(t *testing.T) {
	for _, n := range []int{impl.MaxText - 1, impl.MaxText, impl.MaxText + 1, 3 * impl.MaxText} {
		if got := impl.Words(strings.Repeat("a ", n)); len(got) != n {
			t.Errorf("%d words: %d", n, len(got))
		}
		if got := impl.Words(strings.Repeat(" ", n)); len(got) != 0 {
			t.Errorf("%d blanks: %d words", n, len(got))
		}
	}
}

// Two answers share no memory, and what is done to one isn't kept for the next.
func TestTextAnswersAreNew(t *testing.T) {
	for name, tell := range map[string]func(string) []string{"Lines": impl.Lines, "Words": impl.Words} {
		s := "a\nb c\td\n"
		want := slices.Clone(tell(s))
		first, second := tell(s), tell(s)
		for i := range first {
			first[i] = "changed"
		}
		first = append(first[:0], "x", "y", "z")
		if !slices.Equal(second, want) || !slices.Equal(tell(s), want) {
			t.Errorf("%s: answers share memory: %q %q", name, first, second)
		}
	}
}

// No argument makes a function of the chapter panic.
func TestTextsAnswerAtAnyArguments(t *testing.T) {
	numbers := []int{math.MinInt, -1 << 32, -256, -1, 0, 1, 7, 8, 9, 255, 1 << 32, math.MaxInt}
	texts := []string{"", "\x00", "\xff\xfe", "\n\n", " \t", "-9223372036854775808", "\ufffd", strings.Repeat("F", 40), strings.Repeat("\xe2 \n", impl.MaxText)}
	for _, n := range numbers {
		impl.DecText(n)
		for _, digits := range numbers {
			impl.HexText(n, digits)
		}
	}
	for _, s := range texts {
		impl.ReadDec(s)
		impl.Lines(s)
		impl.Words(s)
		for _, digits := range numbers {
			impl.ReadHex(s, digits)
		}
	}
}
