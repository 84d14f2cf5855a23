package tests

import (
	"math"
	"os"
	"os/exec"
	"strings"
	"sync"
	"testing"

	"loop.example/g00693/impl"
)

const modeCount = 13

// operation is what the chapter tells of a byte.
type operation struct {
	name string
	mode int
	size int
	kind int
}

var noOperation = operation{name: "", mode: -1, size: 0, kind: impl.KNone}

// rule is a sentence of the chapter: the names by row, a dot where a row has none.
type rule struct {
	side  int
	part  int
	mode  int
	names string
}

var operationRules = []rule{
	{1, 0, impl.MIndX, "ORA AND EOR ADC STA LDA CMP SBC"},
	{1, 1, impl.MZp, "ORA AND EOR ADC STA LDA CMP SBC"},
	{1, 2, impl.MImm, "ORA AND EOR ADC . LDA CMP SBC"},
	{1, 3, impl.MAbs, "ORA AND EOR ADC STA LDA CMP SBC"},
	{1, 4, impl.MIndY, "ORA AND EOR ADC STA LDA CMP SBC"},
	{1, 5, impl.MZpX, "ORA AND EOR ADC STA LDA CMP SBC"},
	{1, 6, impl.MAbsY, "ORA AND EOR ADC STA LDA CMP SBC"},
	{1, 7, impl.MAbsX, "ORA AND EOR ADC STA LDA CMP SBC"},

	{2, 0, impl.MImm, ". . . . . LDX . ."},
	{2, 1, impl.MZp, "ASL ROL LSR ROR STX LDX DEC INC"},
	{2, 2, impl.MAcc, "ASL ROL LSR ROR . . . ."},
	{2, 2, impl.MImp, ". . . . TXA TAX DEX NOP"},
	{2, 3, impl.MAbs, "ASL ROL LSR ROR STX LDX DEC INC"},
	{2, 5, impl.MZpX, "ASL ROL LSR ROR . . DEC INC"},
	{2, 5, impl.MZpY, ". . . . STX LDX . ."},
	{2, 6, impl.MImp, ". . . . TXS TSX . ."},
	{2, 7, impl.MAbsX, "ASL ROL LSR ROR . . DEC INC"},
	{2, 7, impl.MAbsY, ". . . . . LDX . ."},

	{0, 0, impl.MImp, "BRK . RTI RTS . . . ."},
	{0, 0, impl.MAbs, ". JSR . . . . . ."},
	{0, 0, impl.MImm, ". . . . . LDY CPY CPX"},
	{0, 1, impl.MZp, ". BIT . . STY LDY CPY CPX"},
	{0, 2, impl.MImp, "PHP PLP PHA PLA DEY TAY INY INX"},
	{0, 3, impl.MAbs, ". BIT JMP . STY LDY CPY CPX"},
	{0, 3, impl.MInd, ". . . JMP . . . ."},
	{0, 4, impl.MRel, "BPL BMI BVC BVS BCC BCS BNE BEQ"},
	{0, 5, impl.MZpX, ". . . . STY LDY . ."},
	{0, 6, impl.MImp, "CLC SEC CLI SEI TYA CLV CLD SED"},
	{0, 7, impl.MAbsX, ". . . . . LDY . ."},
}

// allOperations tells what the chapter's rules make of each byte.
func allOperations() [256]operation {
	var all [256]operation
	for i := range all {
		all[i] = noOperation
	}
	for _, r := range operationRules {
		for row, name := range strings.Fields(r.names) {
			if name != "." {
				all[row<<5|r.part<<2|r.side] = operation{name, r.mode, wantedSize(r.mode), wantedKind(name, r.mode)}
			}
		}
	}
	return all
}

func wantedSize(mode int) int {
	return [modeCount]int{
		impl.MImp: 1, impl.MAcc: 1,
		impl.MImm: 2, impl.MZp: 2, impl.MZpX: 2, impl.MZpY: 2, impl.MIndX: 2, impl.MIndY: 2, impl.MRel: 2,
		impl.MAbs: 3, impl.MAbsX: 3, impl.MAbsY: 3, impl.MInd: 3,
	}[mode]
}

func wantedKind(name string, mode int) int {
	if mode == impl.MAcc {
		return impl.KImp
	}
	for kind, names := range map[int]string{
		impl.KImp:    "TXA TAX DEX NOP TXS TSX DEY TAY INY INX CLC SEC CLI SEI TYA CLV CLD SED",
		impl.KRead:   "ORA AND EOR ADC LDA CMP SBC LDX LDY CPX CPY BIT",
		impl.KWrite:  "STA STX STY",
		impl.KModify: "ASL LSR ROL ROR INC DEC",
		impl.KBranch: "BPL BMI BVC BVS BCC BCS BNE BEQ",
		impl.KJump:   "JMP",
		impl.KSub:    "JSR",
		impl.KBack:   "RTS",
		impl.KRti:    "RTI",
		impl.KBrk:    "BRK",
		impl.KPush:   "PHA PHP",
		impl.KPull:   "PLA PLP",
	} {
		if strings.Contains(names, name) {
			return kind
		}
	}
	return -1
}

func toldOperation(code byte) operation {
	return operation{impl.NameOf(code), impl.ModeOf(code), impl.SizeOf(code), impl.KindOf(code)}
}

func TestOperationsFollowTheRules(t *testing.T) {
	count := 0
	for code, want := range allOperations() {
		if got := toldOperation(byte(code)); got != want {
			t.Errorf("%02X: got %v, want %v", code, got, want)
		}
		if want != noOperation {
			count++
		}
	}
	if count != 151 {
		t.Errorf("the rules make %d operations, want 151", count)
	}
}

func TestBytesThatAreNoOperation(t *testing.T) {
	side3 := []byte{}
	for code := 3; code < 256; code += 4 {
		side3 = append(side3, byte(code))
	}
	count := 0
	for _, c := range []struct {
		why   string
		codes []byte
	}{
		{"STA hasn't MImm", []byte{0x89}},
		{"side 0, part 0 leaves out row 4", []byte{0x80}},
		{"side 0, part 1 leaves out rows 0, 2 and 3", []byte{0x04, 0x44, 0x64}},
		{"side 0, part 3 leaves out row 0", []byte{0x0C}},
		{"STY and LDY alone have side 0, part 5", []byte{0x14, 0x34, 0x54, 0x74, 0xD4, 0xF4}},
		{"LDY alone has side 0, part 7", []byte{0x1C, 0x3C, 0x5C, 0x7C, 0x9C, 0xDC, 0xFC}},
		{"LDX alone has side 2, part 0", []byte{0x02, 0x22, 0x42, 0x62, 0x82, 0xC2, 0xE2}},
		{"side 2, part 4", []byte{0x12, 0x32, 0x52, 0x72, 0x92, 0xB2, 0xD2, 0xF2}},
		{"TXS and TSX alone have side 2, part 6", []byte{0x1A, 0x3A, 0x5A, 0x7A, 0xDA, 0xFA}},
		{"STX hasn't side 2, part 7", []byte{0x9E}},
		{"side 3", side3},
	} {
		for _, code := range c.codes {
			count++
			if got := toldOperation(code); got != noOperation {
				t.Errorf("%02X: got %v, want none: %s", code, got, c.why)
			}
		}
	}
	if count != 256-151 {
		t.Errorf("%d bytes are none, want 105", count)
	}
}

func TestModesOfXAndY(t *testing.T) {
	for _, c := range []struct {
		name string
		mode int
		want int
	}{
		{"STX", impl.MZpY, 0x96},
		{"STX", impl.MZpX, -1},
		{"STX", impl.MAbsY, -1},
		{"STX", impl.MAbsX, -1},
		{"STX", impl.MImm, -1},
		{"LDX", impl.MZpY, 0xB6},
		{"LDX", impl.MZpX, -1},
		{"LDX", impl.MAbsY, 0xBE},
		{"LDX", impl.MAbsX, -1},
		{"LDX", impl.MImm, 0xA2},
		{"STY", impl.MZpX, 0x94},
		{"STY", impl.MZpY, -1},
		{"STY", impl.MAbsX, -1},
		{"LDY", impl.MZpX, 0xB4},
		{"LDY", impl.MZpY, -1},
		{"LDY", impl.MAbsX, 0xBC},
		{"LDY", impl.MAbsY, -1},
		{"ASL", impl.MZpX, 0x16},
		{"ASL", impl.MAbsX, 0x1E},
		{"ASL", impl.MZpY, -1},
		{"ASL", impl.MAbsY, -1},
		{"INC", impl.MZpX, 0xF6},
		{"INC", impl.MAbsX, 0xFE},
		{"LDA", impl.MZpX, 0xB5},
		{"LDA", impl.MZpY, -1},
		{"LDA", impl.MAbsY, 0xB9},
		{"LDA", impl.MAbsX, 0xBD},
	} {
		if got := impl.CodeOf(c.name, c.mode); got != c.want {
			t.Errorf("CodeOf(%q, %d) = %d, want %d", c.name, c.mode, got, c.want)
		}
	}
}

func TestBytesComeBackFromNameAndMode(t *testing.T) {
	type pair struct {
		name string
		mode int
	}
	codes := map[pair]int{}
	names := map[string]bool{}
	for code := range 256 {
		name, mode := impl.NameOf(byte(code)), impl.ModeOf(byte(code))
		if name == "" {
			continue
		}
		if other, ok := codes[pair{name, mode}]; ok {
			t.Errorf("%s with mode %d is %02X and %02X", name, mode, other, code)
		}
		codes[pair{name, mode}] = code
		names[name] = true
	}
	if len(names) != 56 || len(codes) != 151 {
		t.Errorf("%d names in %d pairs, want 56 in 151", len(names), len(codes))
	}
	for name := range names {
		for mode := -3; mode < modeCount+3; mode++ {
			want, ok := codes[pair{name, mode}]
			if !ok {
				want = -1
			}
			if got := impl.CodeOf(name, mode); got != want {
				t.Errorf("CodeOf(%q, %d) = %d, want %d", name, mode, got, want)
			}
		}
	}
}

func TestCodesOfNoNameAndNoMode(t *testing.T) {
	names := []string{
		"", " ", ".", "lda", "Lda", "LD", "LDAA", " LDA", "LDA ", "LDA\x00", "ADCSBC",
		"ORA AND EOR", "LAX", "SAX", "STZ", "BRA", "KIL", "XXX", "ÄND", "\xff\xfe", strings.Repeat("LDA", 1000),
	}
	for _, name := range names {
		for mode := -3; mode < modeCount+3; mode++ {
			if got := impl.CodeOf(name, mode); got != -1 {
				t.Errorf("CodeOf(%q, %d) = %d, want -1", name, mode, got)
			}
		}
	}
	for _, mode := range []int{-1, -2, modeCount, modeCount + 1, 255, 256, 1 << 32, math.MinInt, math.MaxInt} {
		for _, op := range allOperations() {
			if got := impl.CodeOf(op.name, mode); got != -1 {
				t.Errorf("CodeOf(%q, %d) = %d, want -1", op.name, mode, got)
			}
		}
	}
}

func TestSecondCallsAnswerAsFirstOnes(t *testing.T) {
	first := allToldOperations()
	impl.CodeOf("XXX", -1)
	if allToldOperations() != first {
		t.Error("a second round of calls tells other operations")
	}
	var calls sync.WaitGroup
	var told [8][256]operation
	for i := range told {
		calls.Go(func() { told[i] = allToldOperations() })
	}
	calls.Wait()
	for i := range told {
		if told[i] != first {
			t.Errorf("calls side by side tell other operations (%d)", i)
		}
	}
}

func allToldOperations() [256]operation {
	var all [256]operation
	for code := range all {
		all[code] = toldOperation(byte(code))
	}
	return all
}

// TestFirstCallOfEach asks each function in a process of its own, where no
// other one was called ahead of it.
func TestFirstCallOfEach(t *testing.T) {
	const asked = "TRANSIT_FIRST_CALL"
	right := map[string]func() bool{
		"NameOf": func() bool { return impl.NameOf(0xFE) == "INC" },
		"ModeOf": func() bool { return impl.ModeOf(0xFE) == impl.MAbsX },
		"CodeOf": func() bool { return impl.CodeOf("INC", impl.MAbsX) == 0xFE },
		"SizeOf": func() bool { return impl.SizeOf(0xFE) == 3 },
		"KindOf": func() bool { return impl.KindOf(0xFE) == impl.KModify },
	}
	if name := os.Getenv(asked); name != "" {
		if !right[name]() {
			t.Error("the first call fails")
		}
		return
	}
	for name := range right {
		again := exec.Command(os.Args[0], "-test.run=^TestFirstCallOfEach$")
		again.Env = append(os.Environ(), asked+"="+name)
		if out, err := again.CombinedOutput(); err != nil {
			t.Errorf("%s: %v\n%s", name, err, out)
		}
	}
}
