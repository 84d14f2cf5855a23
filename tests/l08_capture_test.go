package tests

import (
	"fmt"
	"regexp"
	"slices"
	"strings"
	"testing"

	"loop.example/g00693/impl"
)

var cyclePattern = regexp.MustCompile(`^[0-9A-F]{4} [0-9A-F]{2} [rw]\z`)

// someCycleAddrs tells addresses with all numbers of noughts ahead, and many between.
func someCycleAddrs() []uint16 {
	all := []uint16{0, 1, 9, 10, 15, 16, 99, 100, 255, 256, 4095, 4096, 0x7FFF, 0x8000, 0xFFFE, 0xFFFF}
	for addr := 13; addr < 65536; addr += 331 {
		all = append(all, uint16(addr))
	}
	return all
}

// mixedCycles tells so many cycles that look like chance, but are always the same.
func mixedCycles(count int, seed uint32) []impl.Cyc {
	b := mixedBytes(4*count, seed*7919+11)
	var list []impl.Cyc
	for i := range count {
		addr := uint16(b[4*i])*256 + uint16(b[4*i+1])
		list = append(list, impl.Cyc{Addr: addr, Data: b[4*i+2], Write: b[4*i+3] >= 128})
	}
	return list
}

func wantedCycText(c impl.Cyc) string {
	if c.Write {
		return fmt.Sprintf("%04X %02X w", c.Addr, c.Data)
	}
	return fmt.Sprintf("%04X %02X r", c.Addr, c.Data)
}

func wantedTraceText(list []impl.Cyc) string {
	text := ""
	for _, c := range list {
		text += wantedCycText(c) + "\n"
	}
	return text
}

func wantedCyc(s string) (impl.Cyc, bool) {
	var c impl.Cyc
	if !cyclePattern.MatchString(s) {
		return c, false
	}
	sign := ""
	fmt.Sscanf(s, "%X %X %s", &c.Addr, &c.Data, &sign)
	c.Write = sign == "w"
	return c, true
}

func wantedTrace(s string) ([]impl.Cyc, int) {
	if len(s) > 20000 {
		return nil, 1
	}
	var list []impl.Cyc
	for i, line := range strings.Split(s, "\n") {
		words := strings.Split(strings.ReplaceAll(line, "\t", " "), " ")
		words = slices.DeleteFunc(words, func(w string) bool { return w == "" })
		if len(words) == 0 {
			continue
		}
		c, ok := wantedCyc(strings.Join(words, " "))
		if !ok || len(list) == 1200 {
			return nil, i + 1
		}
		list = append(list, c)
	}
	return list, 0
}

func checkReadCyc(t *testing.T, s string) {
	t.Helper()
	got, ok := impl.ReadCyc(s)
	if want, wantOk := wantedCyc(s); got != want || ok != wantOk {
		t.Errorf("ReadCyc(%q) = %v, %v, want %v, %v", s, got, ok, want, wantOk)
	}
}

func checkReadTrace(t *testing.T, what string, s string, count int, bad int) {
	t.Helper()
	want, wantBad := wantedTrace(s)
	if len(want) != count || wantBad != bad {
		t.Fatalf("%s: the row tells %d cycles and %d, the model %d and %d", what, count, bad, len(want), wantBad)
	}
	if got, gotBad := impl.ReadTrace(s); !slices.Equal(got, want) || gotBad != bad {
		t.Errorf("%s: %d cycles, %d, want %d, %d, or other ones", what, len(got), gotBad, count, bad)
	}
}

func TestCycTextByHand(t *testing.T) {
	for _, row := range []struct {
		c    impl.Cyc
		want string
	}{
		{impl.Cyc{}, "0000 00 r"},
		{impl.Cyc{Write: true}, "0000 00 w"},
		{impl.Cyc{Addr: 9, Data: 9}, "0009 09 r"},
		{impl.Cyc{Addr: 10, Data: 10, Write: true}, "000A 0A w"},
		{impl.Cyc{Addr: 255, Data: 255}, "00FF FF r"},
		{impl.Cyc{Addr: 256, Data: 16, Write: true}, "0100 10 w"},
		{impl.Cyc{Addr: 4095, Data: 15}, "0FFF 0F r"},
		{impl.Cyc{Addr: 4096, Data: 0xEA}, "1000 EA r"},
		{impl.Cyc{Addr: 0xABCD, Data: 0xEF, Write: true}, "ABCD EF w"},
		{impl.Cyc{Addr: 65535, Data: 128, Write: true}, "FFFF 80 w"},
	} {
		if got := impl.CycText(row.c); got != row.want {
			t.Errorf("CycText(%v) = %q, want %q", row.c, got, row.want)
		}
		if got, ok := impl.ReadCyc(row.want); !ok || got != row.c {
			t.Errorf("ReadCyc(%q) = %v, %v, want %v", row.want, got, ok, row.c)
		}
	}
}

func TestCyclesComeBackFromTheirTexts(t *testing.T) {
	check := func(c impl.Cyc) {
		text := impl.CycText(c)
		if want := wantedCycText(c); text != want {
			t.Fatalf("CycText(%v) = %q, want %q", c, text, want)
		}
		if got, ok := impl.ReadCyc(text); !ok || got != c {
			t.Fatalf("ReadCyc(%q) = %v, %v, want %v", text, got, ok, c)
		}
	}
	for _, write := range []bool{false, true} {
		for _, addr := range someCycleAddrs() {
			for data := range 256 {
				check(impl.Cyc{Addr: addr, Data: byte(data), Write: write})
			}
		}
		for addr := range 65536 {
			check(impl.Cyc{Addr: uint16(addr), Data: byte(addr * 37), Write: write})
		}
	}
}

func TestTextsOfNoCycle(t *testing.T) {
	for _, s := range []string{
		"", " ", "\n", "r", "w", "0300", "0300 EA", "0300 EA ", "EA r", " EA r", "0300 r",
		// a digit too few or too many
		"300 EA r", "00300 EA r", "10300 EA r", "0300 A r", "0300 0EA r", "0300 1EA w", " EA w", "0300  w",
		// small letters, other digits, signs
		"030a EA r", "0300 ea r", "0300 eA w", "0300 Ea w", "abcd ef w", "G300 EA r", "0300 EG r", "0300 0x r", "0x30 EA r",
		"+300 EA r", "-300 EA r", "0300 +A r", "0300 -1 r", "$300 EA r", "0_00 EA r", "030/ EA r", "030: EA r", "030@ EA r",
		// blanks
		"0300  EA r", "0300 EA  r", "0300\tEA r", "0300 EA\tr", "0300EA r", "0300 EAr", "0300EAr", " 0300 EA r", "0300 EA r ",
		"\t0300 EA r", "0300 EA r\t", "03 00 EA r", "0300 E A r", "0300\u00a0EA r", "0300\nEA r", "0300\x00EA\x00r",
		// what it does there
		"0300 EA R", "0300 EA W", "0300 EA x", "0300 EA rr", "0300 EA ww", "0300 EA rw", "0300 EA 0", "0300 EA 1", "0300 EA -",
		"0300 EA \u0072\u0301", "0300 EA \xf2", "0300 EA \u0172", "0300 EA \x00", "0300 EA read", "0300 EA write",
		// something behind, or ahead
		"0300 EA r\n", "0300 EA w\n", "\n0300 EA r", "0300 EA r\r", "0300 EA r\x00", "0300 EA r x", "0300 EA r r", "0300 EA r;",
		"0300 EA r\n0300 EA r", "x 0300 EA r", "0300: EA r", "\ufeff0300 EA r", "0300 EA r\xff", "\xff\xfe\xfd",
		"r EA 0300", "EA 0300 r", "0300 r EA", "FF 0300 w", "0300 0300 r", "EA EA r",
		strings.Repeat("0", 4000) + " EA r", strings.Repeat("0300 EA r ", 3000),
	} {
		if got, ok := impl.ReadCyc(s); ok || got != (impl.Cyc{}) {
			t.Errorf("ReadCyc(%.40q) = %v, %v", s, got, ok)
		}
		checkReadCyc(t, s)
	}
}

// TestCycTextsThatAreAlmostRight changes, takes out and puts in each byte at each place.
func TestCycTextsThatAreAlmostRight(t *testing.T) {
	for _, s := range []string{"0300 EA r", "9AF0 1E w", "FFFF 00 r"} {
		checkReadCyc(t, s)
		for place := range len(s) + 1 {
			for b := range 256 {
				sign := string([]byte{byte(b)})
				checkReadCyc(t, s[:place]+sign+s[place:])
				if place < len(s) {
					checkReadCyc(t, s[:place]+sign+s[place+1:])
				}
			}
			if place < len(s) {
				checkReadCyc(t, s[:place]+s[place+1:])
				checkReadCyc(t, s[:place])
				checkReadCyc(t, s[place:])
			}
		}
	}
}

func TestCycTextsOfFewSigns(t *testing.T) {
	for _, s := range textsOf("0A rw\n", 4) {
		for _, ahead := range []string{"", "0300", "0300 ", "0300 E", "0300 EA", "0300 EA "} {
			checkReadCyc(t, ahead+s)
		}
	}
}

// captureSizes are numbers of cycles that a capture may have.
var captureSizes = []int{0, 1, 2, 3, 100, 1199, 1200}

func TestCapturesComeBackFromTheirTexts(t *testing.T) {
	for _, count := range captureSizes {
		for seed := range uint32(3) {
			list := mixedCycles(count, seed)
			text := impl.TraceText(list)
			if text != wantedTraceText(list) {
				t.Errorf("the text of %d cycles: %.60q", count, text)
			}
			if got, bad := impl.ReadTrace(text); bad != 0 || !slices.Equal(got, list) {
				t.Errorf("of %d cycles %d come back, %d", count, len(got), bad)
			}
			// Its last newline needn't be there.
			if got, bad := impl.ReadTrace(strings.TrimSuffix(text, "\n")); bad != 0 || !slices.Equal(got, list) {
				t.Errorf("of %d cycles without a newline behind %d come back, %d", count, len(got), bad)
			}
		}
	}
}

func TestTextsOfTooManyCycles(t *testing.T) {
	if impl.MaxTrace != 1200 {
		t.Fatalf("MaxTrace is %d", impl.MaxTrace)
	}
	for _, count := range []int{1201, 1202, 2400, 5000} {
		if got := impl.TraceText(mixedCycles(count, 1)); got != "" {
			t.Errorf("the text of %d cycles has %d bytes", count, len(got))
		}
	}
	if got := impl.TraceText(nil); got != "" {
		t.Errorf("the text of no cycles: %q", got)
	}
}

func TestRunsComeBackAsCaptures(t *testing.T) {
	longest := 0
	for seed := range uint32(20) {
		r := impl.Ram{Bytes: operationBytes(4096, seed, 0)}
		list := impl.Run(mixedCpu(seed), r, mixedEvents(8, seed, 120), 120).Trace
		longest = max(longest, len(list))
		if got, bad := impl.ReadTrace(impl.TraceText(list)); bad != 0 || !slices.Equal(got, list) {
			t.Errorf("run %d doesn't come back from its text: %d", seed, bad)
		}
		if got, ok := impl.UnpackTrace(impl.PackTrace(list)); !ok || !slices.Equal(got, list) {
			t.Errorf("run %d doesn't come back from its bytes", seed)
		}
	}
	if longest < 300 {
		t.Errorf("the longest run has %d cycles", longest)
	}
}

func TestReadTraceByHand(t *testing.T) {
	one, two := impl.Cyc{Addr: 0x0300, Data: 0xEA}, impl.Cyc{Addr: 0x01FD, Data: 7, Write: true}
	for _, row := range []struct {
		s    string
		want []impl.Cyc
		bad  int
	}{
		{"", nil, 0},
		{"\n", nil, 0},
		{" ", nil, 0},
		{"\t \n\n  \n\t", nil, 0},
		{"0300 EA r", []impl.Cyc{one}, 0},
		{"0300 EA r\n", []impl.Cyc{one}, 0},
		{"0300 EA r\n01FD 07 w", []impl.Cyc{one, two}, 0},
		{"0300 EA r\n01FD 07 w\n", []impl.Cyc{one, two}, 0},
		{"01FD 07 w\n01FD 07 w\n0300 EA r\n", []impl.Cyc{two, two, one}, 0},
		// blanks ahead, behind and between
		{"  0300 EA r", []impl.Cyc{one}, 0},
		{"0300 EA r \t ", []impl.Cyc{one}, 0},
		{"\t0300   EA\t\tr\t\n \t 01FD \t 07 \t w", []impl.Cyc{one, two}, 0},
		// lines without Words
		{"\n\n0300 EA r", []impl.Cyc{one}, 0},
		{"0300 EA r\n\n \n\t\n01FD 07 w", []impl.Cyc{one, two}, 0},
		{"0300 EA r\n\n\n ", []impl.Cyc{one}, 0},
		{" \n0300 EA r\n\t\n01FD 07 w\n  \n\n", []impl.Cyc{one, two}, 0},
		// a line that is none
		{"x", nil, 1},
		{"x\n", nil, 1},
		{"x\n0300 EA r", nil, 1},
		{"0300 EA r\nx\n01FD 07 w", nil, 2},
		{"0300 EA r\n01FD 07 w\nx", nil, 3},
		{"0300 EA r\n01FD 07 w\nx\n", nil, 3},
		{"x\ny\nz", nil, 1},
		{"0300 EA r\ny\nz", nil, 2},
		{"\n\nx", nil, 3},
		{"0300 EA r\n \n\t\nx\n", nil, 4},
		{"\n0300 EA r\n\n01FD 07 w\n\n\n0300 EA R", nil, 7},
		// almost cycles
		{"0300 EA", nil, 1},
		{"0300 EA r x", nil, 1},
		{"0300 EA r 01FD 07 w", nil, 1},
		{"0300 E A r", nil, 1},
		{"0300 EAr", nil, 1},
		{"0300EA r", nil, 1},
		{"300 EA r", nil, 1},
		{"0300 ea r", nil, 1},
		{"0300 EA W", nil, 1},
		{"0300\nEA r", nil, 1},
		{"0300 EA r ; read", nil, 1},
		{"; read\n0300 EA r", nil, 1},
		// bytes that are no signs, and other blanks
		{"\xff", nil, 1},
		{"\x00", nil, 1},
		{"0300 EA r\n\xff\xfe\n", nil, 2},
		{"0300 EA r\n0300 EA r\xff", nil, 2},
		{"0300 EA \xff", nil, 1},
		{"\x80300 EA r", nil, 1},
		{"0300 EA r\x00", nil, 1},
		{"0300 EA r\r\n01FD 07 w\r\n", nil, 1},
		{"0300 EA r\n\r\n01FD 07 w", nil, 2},
		{"0300\u00a0EA r", nil, 1},
		{"0300\u2003EA r", nil, 1},
		{"\u00a0", nil, 1},
		{"\v", nil, 1},
		{"0300 EA r\f", nil, 1},
		{"0300 EA r\u202801FD 07 w", nil, 1},
	} {
		if got, bad := impl.ReadTrace(row.s); bad != row.bad || !slices.Equal(got, row.want) {
			t.Errorf("ReadTrace(%q) = %v, %d, want %v, %d", row.s, got, bad, row.want, row.bad)
		}
	}
}

// TestReadTraceOfOneLineThatIsNone puts it at each place among others.
func TestReadTraceOfOneLineThatIsNone(t *testing.T) {
	lines := strings.SplitAfter(wantedTraceText(mixedCycles(40, 3)), "\n")[:40]
	for place := range len(lines) + 1 {
		ahead, behind := strings.Join(lines[:place], ""), strings.Join(lines[place:], "")
		checkReadTrace(t, fmt.Sprintf("a bad line behind %d", place), ahead+"0300 EA\n"+behind, 0, place+1)
		checkReadTrace(t, fmt.Sprintf("an empty one behind %d", place), ahead+"\n"+behind, 40, 0)
		checkReadTrace(t, fmt.Sprintf("blanks and a bad one behind %d", place), "\n"+ahead+" \t\n0300 EA\nx\n"+behind, 0, place+3)
	}
}

func TestReadTraceOfTooManyCycles(t *testing.T) {
	text := func(count int) string { return wantedTraceText(mixedCycles(count, 5)) }
	spread := strings.ReplaceAll(text(1200), "\n", "\n\n")
	for _, row := range []struct {
		what  string
		s     string
		count int
		bad   int
	}{
		{"one less", text(1199), 1199, 0},
		{"just enough", text(1200), 1200, 0},
		{"just enough, without a newline", strings.TrimSuffix(text(1200), "\n"), 1200, 0},
		{"just enough, and a line without words", text(1200) + " \t", 1200, 0},
		{"just enough, and lines without words", text(1200) + "\n\n \n\t\n", 1200, 0},
		{"lines without words, and just enough", "\n\t\n" + text(1200), 1200, 0},
		{"lines without words between", spread, 1200, 0},
		{"one more", text(1201), 0, 1201},
		{"one more, without a newline", text(1200) + "0300 EA r", 0, 1201},
		{"many more", text(1500), 0, 1201},
		{"one more behind lines without words", text(1200) + "\n \n\t\n0300 EA r\n", 0, 1204},
		{"lines without words ahead, and one more", "\n\n" + text(1201), 0, 1203},
		{"lines without words between, and one more", spread + "0300 EA w", 0, 2401},
		{"one more, and a bad line", text(1201) + "x\n", 0, 1201},
		{"one more behind a line without words, and a bad line", text(1200) + "\n0300 EA r\nx", 0, 1202},
		{"a bad line in the place of one more", text(1200) + "x\n", 0, 1201},
		{"a bad line, and one more", text(1200) + "x\n0300 EA r\n", 0, 1201},
		{"a bad line behind lines without words", text(1200) + "\n\n0300 EA\n", 0, 1203},
		{"a bad line as the last one", text(1199) + "x\n", 0, 1200},
		{"a bad line ahead of the last one", text(1199) + "x\n0300 EA r\n0300 EA r\n", 0, 1200},
		{"a bad line as the first one", "x\n" + text(1300), 0, 1},
		{"a bad line in the midst", text(600) + "x\n" + text(700), 0, 601},
	} {
		checkReadTrace(t, row.what, row.s, row.count, row.bad)
	}
}

func TestReadTraceOfMaxText(t *testing.T) {
	filled := func(text string, sign string) string { return text + strings.Repeat(sign, 20000-len(text)) }
	full := wantedTraceText(mixedCycles(1200, 6))
	for _, row := range []struct {
		what  string
		s     string
		count int
		bad   int
	}{
		{"newlines", filled("", "\n"), 0, 0},
		{"blanks", filled("", " "), 0, 0},
		{"a cycle and blanks", filled("0300 EA r", " "), 1, 0},
		{"a cycle and newlines", filled("0300 EA r", "\n"), 1, 0},
		{"cycles and newlines", filled(full, "\n"), 1200, 0},
		{"cycles and bytes 9", filled(full, "\t"), 1200, 0},
		{"blanks and a cycle", strings.Repeat(" ", 19991) + "0300 EA r", 1, 0},
		{"newlines and a bad line", strings.Repeat("\n", 19999) + "x", 0, 20000},
		{"one word", filled("", "0"), 0, 1},
		{"too many cycles", filled(full+"0300 EA r", "\n"), 0, 1201},
	} {
		if len(row.s) != 20000 {
			t.Fatalf("%s: %d bytes", row.what, len(row.s))
		}
		checkReadTrace(t, row.what, row.s, row.count, row.bad)
		for _, more := range []string{" ", "\n", "x", "\n0300 EA r"} {
			checkReadTrace(t, row.what+", and more", row.s+more, 0, 1)
			checkReadTrace(t, "more, and "+row.what, more+row.s, 0, 1)
		}
	}
	// The text's length is line 1 wherever another reason would be.
	checkReadTrace(t, "far too long, with too many cycles", strings.Repeat(full, 2), 0, 1)
	checkReadTrace(t, "too long, with a bad line", filled(full+"x", "\n")+"\n", 0, 1)
}

// TestReadTraceOfAnyText asks for texts of few pieces, line by line by the patterns.
func TestReadTraceOfAnyText(t *testing.T) {
	pieces := []string{"0300 EA r", "01FD 07 w", "FFFF", "00", "r", " ", "\n", "\t", "\r"}
	var build func(s string, left int)
	build = func(s string, left int) {
		want, wantBad := wantedTrace(s)
		if got, bad := impl.ReadTrace(s); bad != wantBad || !slices.Equal(got, want) {
			t.Errorf("ReadTrace(%q) = %v, %d, want %v, %d", s, got, bad, want, wantBad)
		}
		if left > 0 {
			for _, piece := range pieces {
				build(s+piece, left-1)
			}
		}
	}
	build("", 5)
}
