package tests

import (
	"bytes"
	"fmt"
	"regexp"
	"slices"
	"strings"
	"testing"

	"loop.example/g00693/impl"
)

var somePlaces = []uint16{0, 1, 2, 0x007F, 0x0080, 0x00FF, 0x1000, 0x7FFE, 0x8000, 0xFF7F, 0xFF80, 0xFFFD, 0xFFFE, 0xFFFF}

// wantedText is the chapter's text of an operation with all its bytes.
func wantedText(op operation, b []byte, pc uint16) string {
	switch op.mode {
	case impl.MImp:
		return op.name
	case impl.MAcc:
		return op.name + " A"
	case impl.MRel:
		way := int(b[1])
		if way >= 128 {
			way -= 256
		}
		return fmt.Sprintf("%s $%04X", op.name, (int(pc)+2+way+65536)%65536)
	}
	form := [modeCount]string{
		impl.MImm: "#$%02X", impl.MZp: "$%02X", impl.MZpX: "$%02X,X", impl.MZpY: "$%02X,Y",
		impl.MAbs: "$%04X", impl.MAbsX: "$%04X,X", impl.MAbsY: "$%04X,Y", impl.MInd: "($%04X)",
		impl.MIndX: "($%02X,X)", impl.MIndY: "($%02X),Y",
	}[op.mode]
	number := int(b[1])
	if op.size == 3 {
		number += 256 * int(b[2])
	}
	return op.name + " " + fmt.Sprintf(form, number)
}

var modeForms = [modeCount]*regexp.Regexp{
	impl.MImp:  regexp.MustCompile(`^([A-Z]{3})$`),
	impl.MAcc:  regexp.MustCompile(`^([A-Z]{3}) A$`),
	impl.MImm:  regexp.MustCompile(`^([A-Z]{3}) #\$([0-9A-F]{2})$`),
	impl.MZp:   regexp.MustCompile(`^([A-Z]{3}) \$([0-9A-F]{2})$`),
	impl.MZpX:  regexp.MustCompile(`^([A-Z]{3}) \$([0-9A-F]{2}),X$`),
	impl.MZpY:  regexp.MustCompile(`^([A-Z]{3}) \$([0-9A-F]{2}),Y$`),
	impl.MAbs:  regexp.MustCompile(`^([A-Z]{3}) \$([0-9A-F]{4})$`),
	impl.MAbsX: regexp.MustCompile(`^([A-Z]{3}) \$([0-9A-F]{4}),X$`),
	impl.MAbsY: regexp.MustCompile(`^([A-Z]{3}) \$([0-9A-F]{4}),Y$`),
	impl.MInd:  regexp.MustCompile(`^([A-Z]{3}) \(\$([0-9A-F]{4})\)$`),
	impl.MIndX: regexp.MustCompile(`^([A-Z]{3}) \(\$([0-9A-F]{2}),X\)$`),
	impl.MIndY: regexp.MustCompile(`^([A-Z]{3}) \(\$([0-9A-F]{2})\),Y$`),
	impl.MRel:  regexp.MustCompile(`^([A-Z]{3}) \$([0-9A-F]{4})$`),
}

// wantedBytes tells by patterns which bytes have that text at pc.
func wantedBytes(s string, pc uint16) ([]byte, bool) {
	for code, op := range allOperations() {
		if op == noOperation || !strings.HasPrefix(s, op.name) {
			continue
		}
		found := modeForms[op.mode].FindStringSubmatch(s)
		if found == nil || found[1] != op.name {
			continue
		}
		number := 0
		if len(found) > 2 {
			fmt.Sscanf(found[2], "%X", &number)
		}
		switch {
		case op.size == 1:
			return []byte{byte(code)}, true
		case op.mode == impl.MRel:
			for way := -128; way < 128; way++ {
				if (int(pc)+2+way+65536)%65536 == number {
					return []byte{byte(code), byte(way)}, true
				}
			}
			return nil, false
		case op.size == 2:
			return []byte{byte(code), byte(number)}, true
		}
		return []byte{byte(code), byte(number % 256), byte(number / 256)}, true
	}
	return nil, false
}

// operandsOf tells bytes to stand behind an operation: all of them where there is one.
func operandsOf(op operation) [][]byte {
	switch op.size {
	case 1:
		return [][]byte{{}}
	case 2:
		var all [][]byte
		for b := range 256 {
			all = append(all, []byte{byte(b)})
		}
		return all
	}
	return [][]byte{{0, 0}, {0xFF, 0}, {0, 1}, {0x34, 0x12}, {0x12, 0x34}, {0xCD, 0xAB}, {0x7F, 0x80}, {0xFE, 0xFF}, {0xFF, 0xFF}, {0x00, 0xA0}, {0x0A, 0x00}}
}

func checkRead(t *testing.T, s string, pc uint16) {
	t.Helper()
	want, wantOk := wantedBytes(s, pc)
	got, ok := impl.ReadOp(s, pc)
	if ok != wantOk || !bytes.Equal(got, want) {
		t.Errorf("ReadOp(%q, %04X) = % X, %v, want % X, %v", s, pc, got, ok, want, wantOk)
	}
}

func TestShowOpOfEachMode(t *testing.T) {
	for _, c := range []struct {
		b    []byte
		want string
	}{
		{[]byte{0x00}, "BRK"},
		{[]byte{0xEA}, "NOP"},
		{[]byte{0x4A}, "LSR A"},
		{[]byte{0xA2, 0x0F}, "LDX #$0F"},
		{[]byte{0xA4, 0xF0}, "LDY $F0"},
		{[]byte{0xB4, 0x00}, "LDY $00,X"},
		{[]byte{0xB6, 0xFF}, "LDX $FF,Y"},
		{[]byte{0x20, 0xCD, 0xAB}, "JSR $ABCD"},
		{[]byte{0xFE, 0x00, 0x01}, "INC $0100,X"},
		{[]byte{0xBE, 0x01, 0x00}, "LDX $0001,Y"},
		{[]byte{0x6C, 0xFF, 0x30}, "JMP ($30FF)"},
		{[]byte{0xE1, 0x9A}, "SBC ($9A,X)"},
		{[]byte{0x11, 0x0A}, "ORA ($0A),Y"},
		{[]byte{0x10, 0x00}, "BPL $8002"},
	} {
		if got := impl.ShowOp(c.b, 0x8000); got != c.want {
			t.Errorf("ShowOp(% X) = %q, want %q", c.b, got, c.want)
		}
	}
}

func TestOperationsComeBackFromTheirTexts(t *testing.T) {
	for code, op := range allOperations() {
		if op == noOperation {
			continue
		}
		for i, behind := range operandsOf(op) {
			b := append([]byte{byte(code)}, behind...)
			for j, pc := range somePlaces {
				// Only a branch's text hangs on the place.
				if op.mode != impl.MRel && (i+j)%len(somePlaces) != 0 {
					continue
				}
				want := wantedText(op, b, pc)
				if got := impl.ShowOp(b, pc); got != want {
					t.Errorf("ShowOp(% X, %04X) = %q, want %q", b, pc, got, want)
				}
				got, ok := impl.ReadOp(want, pc)
				if !ok || !bytes.Equal(got, b) {
					t.Errorf("ReadOp(%q, %04X) = % X, %v, want % X", want, pc, got, ok, b)
				}
			}
		}
	}
}

func TestEachOperationAtEachPlace(t *testing.T) {
	for code, op := range allOperations() {
		if op == noOperation {
			continue
		}
		b := []byte{byte(code), 0x9C, 0x41}[:op.size]
		for _, pc := range somePlaces {
			want := wantedText(op, b, pc)
			if got := impl.ShowOp(b, pc); got != want {
				t.Errorf("ShowOp(% X, %04X) = %q, want %q", b, pc, got, want)
			}
			if got, ok := impl.ReadOp(want, pc); !ok || !bytes.Equal(got, b) {
				t.Errorf("ReadOp(%q, %04X) = % X, %v, want % X", want, pc, got, ok, b)
			}
		}
	}
}

func TestShowOpWithMoreAndFewerBytes(t *testing.T) {
	for code, op := range allOperations() {
		for _, pc := range []uint16{0, 0x1234, 0xFFFF} {
			for count := range 7 {
				b := []byte{byte(code), 0x56, 0x78, 0x9A, 0xBC, 0xDE}[:max(count, 1)]
				if count == 0 {
					b = b[:0]
				}
				want := ""
				if op != noOperation && len(b) >= op.size {
					want = wantedText(op, b, pc)
				}
				if got := impl.ShowOp(b, pc); got != want {
					t.Errorf("ShowOp(% X, %04X) = %q, want %q", b, pc, got, want)
				}
			}
		}
	}
	if got := impl.ShowOp(nil, 0); got != "" {
		t.Errorf("of nothing: %q", got)
	}
}

func TestBranches(t *testing.T) {
	for _, c := range []struct {
		way  byte
		pc   uint16
		want string
	}{
		{0x00, 0x1000, "BNE $1002"},
		{0x01, 0x1000, "BNE $1003"},
		{0x7F, 0x1000, "BNE $1081"},
		{0x80, 0x1000, "BNE $0F82"},
		{0xFE, 0x1000, "BNE $1000"},
		{0xFF, 0x1000, "BNE $1001"},
		{0x00, 0xFFFE, "BNE $0000"},
		{0x00, 0xFFFF, "BNE $0001"},
		{0x7F, 0xFFFF, "BNE $0080"},
		{0x7F, 0xFF7E, "BNE $FFFF"},
		{0x7F, 0xFF7F, "BNE $0000"},
		{0xFE, 0xFFFF, "BNE $FFFF"},
		{0xFE, 0x0000, "BNE $0000"},
		{0xFD, 0x0000, "BNE $FFFF"},
		{0x80, 0x0000, "BNE $FF82"},
		{0x80, 0x007E, "BNE $0000"},
		{0x80, 0x007D, "BNE $FFFF"},
	} {
		b := []byte{0xD0, c.way}
		if got := impl.ShowOp(b, c.pc); got != c.want {
			t.Errorf("ShowOp(% X, %04X) = %q, want %q", b, c.pc, got, c.want)
		}
		if got, ok := impl.ReadOp(c.want, c.pc); !ok || !bytes.Equal(got, b) {
			t.Errorf("ReadOp(%q, %04X) = % X, %v, want % X", c.want, c.pc, got, ok, b)
		}
	}
}

func TestBranchesThatAreTooFar(t *testing.T) {
	for _, pc := range somePlaces {
		count := 0
		for step := range 65536 {
			// Far from both ends, some aims stand for all.
			if step > 140 && step < 65536-140 && step%1021 != 0 {
				continue
			}
			aim := pc + 2 + uint16(step)
			b, ok := impl.ReadOp(fmt.Sprintf("BVC $%04X", aim), pc)
			want := step <= 127 || step >= 65536-128
			if ok != want || !want && len(b) != 0 || want && !bytes.Equal(b, []byte{0x50, byte(step)}) {
				t.Errorf("BVC $%04X at %04X: % X, %v", aim, pc, b, ok)
			}
			if ok {
				count++
			}
		}
		if count != 256 {
			t.Errorf("%d aims can be told at %04X, want 256", count, pc)
		}
	}
}

func TestTextsOfNoOperation(t *testing.T) {
	for _, s := range []string{
		"", " ", "\n", ";", "$", "$10", "#$10", "A", ".byte $10", " A", " $10", "X",
		"LDA", "LDA ", "LDA A", "JMP", "BNE", "ASL", "INC A", "NOP A", "NOP $10", "NOP ", " NOP", "NOP\n", "NOP\t", "NOPE", "NO",
		"LDA #$", "LDA #$1", "LDA #$123", "LDA #$1234", "LDA $", "LDA $1", "LDA $123", "LDA $12345", "LDA $1234567890ABCDEF01",
		"LDA $1,X", "LDA $123,X", "LDA $12345,Y", "LDA ($1,X)", "LDA ($1234,X)", "LDA ($1),Y", "LDA ($1234),Y",
		"JMP ($12)", "JMP ($123)", "JMP ($12345)", "JMP $12", "JSR $12", "BNE $12", "BNE $123", "BNE #$12",
		"lda #$10", "LDa #$10", "LDA #$1a", "LDA $10,x", "LDA ($10),y", "asl a", "ASL a", "JMP ($abcd)",
		"LDA  #$10", "LDA #$10 ", " LDA #$10", "LDA # $10", "LDA #$1 0", "LDA $10, X", "LDA $10 ,X", "LDA ( $10,X)", "LDA ($10 ,X)", "ASL  A", "LDA\t#$10",
		"LDA#$10", "ASLA", "LDA$10",
		"STA #$10", "STX $10,X", "STX $1234,Y", "STY $1234,X", "LDX $10,X", "LDX $1234,X", "LDY $10,Y", "LDA $10,Y", "JMP ($1234),Y", "LDA ($1234)", "LDA ($10)",
		"LDA ($12),X", "LDA ($12,Y)", "LDA ($12,X", "LDA $12,X)", "LDA ($12", "LDA $12)", "LDA $12,", "LDA $12,Z", "LDA $12,XX", "LDA $12,X,X",
		"LDA 10", "LDA #10", "LDA $G0", "LDA $0G", "LDA $-1", "LDA $+1", "LDA $$10", "LDA #$$10", "LDA %10", "LDA $ä", "LDA $\xff\xff", "LDA $1\x00",
		"LAX $10", "XXX", "BRK #$00", "RTS A", "LDA #$10;", "LDA #$10 $10",
		"LDA $10" + strings.Repeat("0", 100000), strings.Repeat("LDA #$10", 10000), strings.Repeat(" ", 100000), "LDA " + strings.Repeat("$", 100000),
	} {
		for _, pc := range []uint16{0, 0x1000, 0xFFFF} {
			if b, ok := impl.ReadOp(s, pc); ok || len(b) != 0 {
				t.Errorf("ReadOp(%.40q, %04X) = % X, %v", s, pc, b, ok)
			}
		}
	}
}

// TestEachNameWithEachForm asks for modes that a name has and hasn't.
func TestEachNameWithEachForm(t *testing.T) {
	names := map[string]bool{"XXX": true, "": true, "LD": true, "LDAX": true, "nop": true}
	for _, op := range allOperations() {
		names[op.name] = true
	}
	forms := []string{
		"", " ", " A", " X", " #$7F", " $7F", " $7F,X", " $7F,Y", " $107F", " $107F,X", " $107F,Y", " ($107F)", " ($7F,X)", " ($7F),Y",
		" #$107F", " ($7F)", " ($107F,X)", " ($107F),Y", " $7F,A", " #A", " $F", " $07F", " $0107F",
	}
	for name := range names {
		for _, form := range forms {
			for _, pc := range []uint16{0x1000, 0x0000} {
				checkRead(t, name+form, pc)
			}
		}
	}
}

// TestTextsThatAreAlmostRight changes, adds and leaves out one byte.
func TestTextsThatAreAlmostRight(t *testing.T) {
	const signs = " $#(),AXYFa0;\t\n\x00\xff"
	for _, s := range []string{
		"NOP", "ROL A", "LDA #$1F", "LDA $1F", "STY $1F,X", "STX $1F,Y", "JMP $1F2E", "INC $1F2E,X", "LDX $1F2E,Y",
		"JMP ($1F2E)", "CMP ($1F,X)", "EOR ($1F),Y", "BEQ $1F2E",
	} {
		for i := range len(s) + 1 {
			for j := range len(signs) {
				sign := signs[j : j+1]
				checkRead(t, s[:i]+sign+s[i:], 0x1F2E)
				if i < len(s) {
					checkRead(t, s[:i]+sign+s[i+1:], 0x1F2E)
				}
			}
			if i < len(s) {
				checkRead(t, s[:i]+s[i+1:], 0x1F2E)
			}
			checkRead(t, s[:i], 0x1F2E)
			checkRead(t, s[i:], 0x1F2E)
		}
	}
}

// wantedListing tells the lines, and what stands behind their first 15 bytes.
func wantedListing(b []byte, org uint16) (lines []string, texts []string) {
	all := allOperations()
	for at := 0; at < len(b); {
		pc := org + uint16(at)
		op := all[b[at]]
		size, text := 1, fmt.Sprintf(".byte $%02X", b[at])
		if op != noOperation && at+op.size <= len(b) {
			size, text = op.size, wantedText(op, b[at:], pc)
		}
		lines = append(lines, fmt.Sprintf("%-15s%s", fmt.Sprintf("%04X: % X", pc, b[at:at+size]), text))
		texts = append(texts, text)
		at += size
	}
	return lines, texts
}

// mixedBytes tells so many bytes that look like chance, but are always the same.
func mixedBytes(count int, seed uint32) []byte {
	b := make([]byte, count)
	for i := range b {
		seed = seed*1664525 + 1013904223
		b[i] = byte(seed >> 24)
	}
	return b
}

func programs() [][]byte {
	all := [][]byte{
		nil,
		{},
		{0xEA},
		{0x02},
		{0xA9},
		{0x20, 0x34},
		{0x20, 0x34, 0x12},
		{0x20, 0xFF},
		{0x20, 0x20, 0x20, 0x20},
		{0x20, 0x20, 0x20, 0x20, 0x20},
		{0xD0, 0xFE, 0xD0, 0x00, 0xD0, 0x80, 0xD0, 0x7F},
		{0x02, 0xFF, 0x03, 0x89, 0x9E},
		bytes.Repeat([]byte{0xEA}, impl.MaxProg),
		bytes.Repeat([]byte{0x02}, impl.MaxProg),
		bytes.Repeat([]byte{0x20}, impl.MaxProg),
		bytes.Repeat([]byte{0x10}, impl.MaxProg-1),
	}
	for code := range 256 {
		all = append(all, []byte{byte(code)}, []byte{byte(code), 0x81}, []byte{byte(code), 0x81, 0x92})
	}
	for seed := range 60 {
		all = append(all, mixedBytes(seed*seed%(impl.MaxProg+1), uint32(seed)))
	}
	return append(all, mixedBytes(impl.MaxProg, 99), mixedBytes(impl.MaxProg-1, 100))
}

func TestListingOfEachKindOfLine(t *testing.T) {
	got := impl.Listing([]byte{0xEA, 0x0A, 0xA5, 0x80, 0x4C, 0xCD, 0xAB, 0xFF, 0x90, 0xF6, 0x6C, 0x01}, 0xFFFA)
	want := []string{
		"FFFA: EA       NOP",
		"FFFB: 0A       ASL A",
		"FFFC: A5 80    LDA $80",
		"FFFE: 4C CD AB JMP $ABCD",
		"0001: FF       .byte $FF",
		"0002: 90 F6    BCC $FFFA",
		"0004: 6C       .byte $6C",
		"0005: 01       .byte $01",
	}
	if !slices.Equal(got, want) {
		t.Errorf("got\n%s\nwant\n%s", strings.Join(got, "\n"), strings.Join(want, "\n"))
	}
}

func TestBytesComeBackFromTheirListing(t *testing.T) {
	for _, b := range programs() {
		for _, org := range []uint16{0, 0x1000, 0xFFFF, 0xFF00} {
			lines, texts := wantedListing(b, org)
			got := impl.Listing(b, org)
			if !slices.Equal(got, lines) {
				t.Fatalf("Listing of % X at %04X:\n%s\nwant\n%s", b, org, strings.Join(got, "\n"), strings.Join(lines, "\n"))
			}
			for i, line := range got {
				if len(line) < 15 || line[15:] != texts[i] {
					t.Errorf("%q hasn't %q behind its first 15 bytes", line, texts[i])
				}
				got[i] = line[15:]
			}
			for _, s := range []string{strings.Join(got, "\n"), strings.Join(got, " ; as shown\n\n") + "\n"} {
				if len(s) > impl.MaxText {
					continue
				}
				again, bad := impl.Assemble(s, org)
				if bad != 0 || !bytes.Equal(again, b) {
					t.Errorf("from the listing of % X at %04X come % X, %d", b, org, again, bad)
				}
			}
		}
	}
}

func TestListingsOfTooManyBytes(t *testing.T) {
	for _, c := range []struct{ count, want int }{
		{0, 0},
		{1, 1},
		{impl.MaxProg - 1, impl.MaxProg - 1},
		{impl.MaxProg, impl.MaxProg},
		{impl.MaxProg + 1, 0},
		{impl.MaxProg + 2, 0},
		{100000, 0},
	} {
		if got := impl.Listing(make([]byte, c.count), 7); len(got) != c.want {
			t.Errorf("%d bytes have %d lines, want %d", c.count, len(got), c.want)
		}
	}
}

func TestAssembleLines(t *testing.T) {
	for _, c := range []struct {
		s    string
		org  uint16
		want []byte
		bad  int
	}{
		{"", 0, nil, 0},
		{"\n", 0, nil, 0},
		{"\n\n\n", 0, nil, 0},
		{" \t ", 0, nil, 0},
		{";", 0, nil, 0},
		{"; NOP\n;;;\n ; x", 0, nil, 0},
		{"NOP", 0, []byte{0xEA}, 0},
		{"NOP\n", 0, []byte{0xEA}, 0},
		{"NOP;x\nBRK ;LDA\n", 0, []byte{0xEA, 0x00}, 0},
		{"NOP ; x ; y\nNOP", 0, []byte{0xEA, 0xEA}, 0},
		{"\t LDA\t \t#$10\t", 0, []byte{0xA9, 0x10}, 0},
		{"  ASL   A  ", 0, []byte{0x0A}, 0},
		{"JMP ($1234)\nLDA ($12),Y\nLDA ($12,X)", 0, []byte{0x6C, 0x34, 0x12, 0xB1, 0x12, 0xA1, 0x12}, 0},
		{".byte $00\n.byte $FF\n \t.byte \t $A9;\n", 0, []byte{0x00, 0xFF, 0xA9}, 0},
		{"\n\nBNE $1000\nBNE $1000\n.byte $02\nBNE $1000", 0x1000, []byte{0xD0, 0xFE, 0xD0, 0xFC, 0x02, 0xD0, 0xF9}, 0},
		{"NOP\nBNE $FFFF\nBNE $FFFF\n", 0xFFFF, []byte{0xEA, 0xD0, 0xFD, 0xD0, 0xFB}, 0},
		{"BNE $0001", 0xFFFF, []byte{0xD0, 0x00}, 0},
		{"NOP\nBNE $1082", 0x1000, []byte{0xEA, 0xD0, 0x7F}, 0},

		{"NO", 0, nil, 1},
		{"\n\nNO", 0, nil, 3},
		{"NOP\n;\n\nNOP NOP\nNO", 0, nil, 4},
		{"NOP\n NOP ; x\nLDA\n", 0, nil, 3},
		{"nop", 0, nil, 1},
		{"NOP\r\nNOP", 0, nil, 1},
		{"LDA # $10", 0, nil, 1},
		{"LDA $10 ,X", 0, nil, 1},
		{"LDA ;#$10", 0, nil, 1},
		{"LDA #$1;0", 0, nil, 1},
		{"NOP\nBNE $1083", 0x1000, nil, 2},
		{"BNE $1082", 0x1000, nil, 1},
		{".byte", 0, nil, 1},
		{".byte $", 0, nil, 1},
		{".byte $2", 0, nil, 1},
		{".byte $002", 0, nil, 1},
		{".byte $0a", 0, nil, 1},
		{".byte 02", 0, nil, 1},
		{".byte #$02", 0, nil, 1},
		{".byte$02", 0, nil, 1},
		{".byte $ 02", 0, nil, 1},
		{".byte $02 $03", 0, nil, 1},
		{".byte $02,$03", 0, nil, 1},
		{".byte $-1", 0, nil, 1},
		{".BYTE $02", 0, nil, 1},
		{"byte $02", 0, nil, 1},
		{". byte $02", 0, nil, 1},
		{"NOP\n.byte $GG", 0, nil, 2},
		{"1000: EA       NOP", 0, nil, 1},
		{"\xff\xfe", 0, nil, 1},
		{"\x00", 0, nil, 1},
	} {
		got, bad := impl.Assemble(c.s, c.org)
		if bad != c.bad || !bytes.Equal(got, c.want) {
			t.Errorf("Assemble(%q, %04X) = % X, %d, want % X, %d", c.s, c.org, got, bad, c.want, c.bad)
		}
	}
}

func TestAssembleTextsOfMaxText(t *testing.T) {
	for _, begin := range []string{"NOP ;", ";", " ", "NOP\n;", ""} {
		filled := begin + strings.Repeat(" ", impl.MaxText-len(begin))
		want := bytes.Repeat([]byte{0xEA}, strings.Count(begin, "NOP"))
		if got, bad := impl.Assemble(filled, 0); bad != 0 || !bytes.Equal(got, want) {
			t.Errorf("%q and blanks till MaxText: % X, %d", begin, got, bad)
		}
		if got, bad := impl.Assemble(filled+" ", 0); bad != 1 || len(got) != 0 {
			t.Errorf("%q and blanks beyond MaxText: % X, %d", begin, got, bad)
		}
	}
	// Both reasons apply, and the text's length is line 1 wherever the bad line is.
	late := "NOP\nNO\n" + strings.Repeat("\n", impl.MaxText)
	if got, bad := impl.Assemble(late, 0); bad != 1 || len(got) != 0 {
		t.Errorf("too long, with a bad line: % X, %d", got, bad)
	}
	if _, bad := impl.Assemble(strings.Repeat("\n", impl.MaxText-1)+"x", 0); bad != impl.MaxText {
		t.Errorf("a bad last line of MaxText: %d", bad)
	}
}

func TestAssembleMaxProgBytes(t *testing.T) {
	const most = impl.MaxProg
	nops := func(count int) string { return strings.Repeat("NOP\n", count) }
	for _, c := range []struct {
		why  string
		s    string
		size int
		bad  int
	}{
		{"just enough", nops(most), most, 0},
		{"just enough, and empty lines", nops(most) + "\n;\n ", most, 0},
		{"one more", nops(most + 1), 0, most + 1},
		{"one more, as a byte", nops(most) + ".byte $00", 0, most + 1},
		{"one more behind empty lines", nops(most) + "\n\nNOP\nNO", 0, most + 3},
		{"a bad line ahead", "NO\n" + nops(most+1), 0, 1},
		{"a bad line behind", nops(most+1) + "NO", 0, most + 1},
		{"two bytes that fit", nops(most-2) + "LDA #$00", most, 0},
		{"two bytes that don't", nops(most-1) + "LDA #$00", 0, most},
		{"three bytes that fit", nops(most-3) + "JMP $0000", most, 0},
		{"three bytes that don't", nops(most-2) + "JMP $0000", 0, most - 1},
	} {
		got, bad := impl.Assemble(c.s, 0xFF00)
		if len(got) != c.size || bad != c.bad {
			t.Errorf("%s: %d bytes, %d, want %d, %d", c.why, len(got), bad, c.size, c.bad)
		}
	}
}

// TestListingsWriteIntoNoArgument gives bytes with room behind them.
func TestListingsWriteIntoNoArgument(t *testing.T) {
	for _, b := range programs() {
		whole := append(bytes.Clone(b), 0x5A, 0x5B, 0x5C, 0x5D)
		before := bytes.Clone(whole)
		given := whole[:len(b)]
		impl.ShowOp(given, 0x1234)
		first := impl.Listing(given, 0x1234)
		if !bytes.Equal(whole, before) {
			t.Fatalf("% X became % X", before, whole)
		}
		kept := slices.Clone(first)
		for i := range whole {
			whole[i] ^= 0xFF
		}
		if !slices.Equal(first, kept) {
			t.Errorf("the listing of % X changed with its argument", b)
		}
	}
}

func TestListingsAnswerNewMemory(t *testing.T) {
	spoil := func(b []byte) {
		b = b[:cap(b)]
		for i := range b {
			b[i] = 0xEE
		}
	}
	for range 2 {
		b, ok := impl.ReadOp("JMP ($1234)", 0)
		if !ok || !bytes.Equal(b, []byte{0x6C, 0x34, 0x12}) {
			t.Errorf("ReadOp: % X, %v", b, ok)
		}
		spoil(b)
		p, bad := impl.Assemble("JMP ($1234)\n.byte $02\n", 0)
		if bad != 0 || !bytes.Equal(p, []byte{0x6C, 0x34, 0x12, 0x02}) {
			t.Errorf("Assemble: % X, %d", p, bad)
		}
		spoil(p)
		lines := impl.Listing([]byte{0xEA, 0x02}, 0)
		if !slices.Equal(lines, []string{"0000: EA       NOP", "0001: 02       .byte $02"}) {
			t.Errorf("Listing: %q", lines)
		}
		clear(lines)
	}
}

// TestAssembleAnyText asks for texts of few signs, line by line by the patterns.
func TestAssembleAnyText(t *testing.T) {
	pieces := []string{"NOP", "BNE", " ", "\n", ";", "$0001", "A", ".byte", "$02", "\t"}
	var build func(s string, left int)
	build = func(s string, left int) {
		want, wantBad := wantedProgram(s, 0xFFFE)
		got, bad := impl.Assemble(s, 0xFFFE)
		if bad != wantBad || !bytes.Equal(got, want) {
			t.Errorf("Assemble(%q) = % X, %d, want % X, %d", s, got, bad, want, wantBad)
		}
		if left > 0 {
			for _, piece := range pieces {
				build(s+piece, left-1)
			}
		}
	}
	build("", 4)
}

func wantedProgram(s string, org uint16) ([]byte, int) {
	byteLine := regexp.MustCompile(`^\.byte \$([0-9A-F]{2})$`)
	blanks := regexp.MustCompile(`[ \t]+`)
	var program []byte
	for i, line := range strings.Split(s, "\n") {
		line = regexp.MustCompile(`;.*`).ReplaceAllString(line, "")
		line = strings.Trim(blanks.ReplaceAllString(line, " "), " ")
		if line == "" {
			continue
		}
		if found := byteLine.FindStringSubmatch(line); found != nil {
			number := 0
			fmt.Sscanf(found[1], "%X", &number)
			program = append(program, byte(number))
			continue
		}
		b, ok := wantedBytes(line, org+uint16(len(program)))
		if !ok {
			return nil, i + 1
		}
		program = append(program, b...)
	}
	return program, 0
}
