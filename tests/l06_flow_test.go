package tests

import (
	"bytes"
	"fmt"
	"testing"

	"loop.example/g00693/impl"
)

// flowKinds lead elsewhere than behind the operation, or have to do with the stack.
var flowKinds = []int{impl.KJump, impl.KSub, impl.KBack, impl.KRti, impl.KBrk, impl.KPush, impl.KPull}

// branchWays tells for each branch a flag alone, set and not, and where it is taken.
var branchWays = []struct {
	name string
	only impl.Flags
	set  bool
}{
	{"BPL", impl.Flags{N: true}, false},
	{"BMI", impl.Flags{N: true}, true},
	{"BVC", impl.Flags{V: true}, false},
	{"BVS", impl.Flags{V: true}, true},
	{"BCC", impl.Flags{C: true}, false},
	{"BCS", impl.Flags{C: true}, true},
	{"BNE", impl.Flags{Z: true}, false},
	{"BEQ", impl.Flags{Z: true}, true},
}

// otherFlags tells the flags that are set where f's aren't.
func otherFlags(f impl.Flags) impl.Flags {
	return impl.Flags{N: !f.N, V: !f.V, D: !f.D, I: !f.I, Z: !f.Z, C: !f.C}
}

func TestBranchesByHand(t *testing.T) {
	for _, way := range branchWays {
		code := codeNamed(way.name)
		taken, not := way.only, otherFlags(way.only)
		if !way.set {
			taken, not = not, taken
		}
		for _, c := range []struct {
			pc     uint16
			byte   byte
			cycles string
			behind uint16
		}{
			{0x0300, 0x00, "0302=EA", 0x0302},
			{0x0300, 0x7F, "0302=EA", 0x0381},
			{0x0300, 0xFE, "0302=EA", 0x0300},
			{0x0300, 0xFD, "0302=EA 03FF=00", 0x02FF},
			{0x0300, 0x80, "0302=EA 0382=00", 0x0282},
			{0x03FD, 0x00, "03FF=EA", 0x03FF},
			{0x03FD, 0x01, "03FF=EA 0300=00", 0x0400},
			{0x03FD, 0x81, "03FF=EA", 0x0380},
			// PC is in the next page by the time that the target is told.
			{0x03FE, 0x00, "0400=EA", 0x0400},
			{0x03FE, 0xFF, "0400=EA 04FF=00", 0x03FF},
			{0x03FF, 0x7E, "0401=EA", 0x047F},
			{0xFFF0, 0x0D, "FFF2=EA", 0xFFFF},
			{0xFFF0, 0x0E, "FFF2=EA FF00=00", 0x0000},
			{0xFFF0, 0x7F, "FFF2=EA FF71=00", 0x0071},
			{0xFFFD, 0x01, "FFFF=EA FF00=00", 0x0000},
			{0xFFFE, 0x00, "0000=EA", 0x0000},
			{0xFFFE, 0xFF, "0000=EA 00FF=00", 0xFFFF},
			{0xFFFF, 0x80, "0001=EA 0081=00", 0xFF81},
			{0x0000, 0xFD, "0002=EA 00FF=00", 0xFFFF},
		} {
			memory := fmt.Sprintf("%04X %02X %02X EA", c.pc, code, c.byte)
			first := fmt.Sprintf("%04X=%02X %04X=%02X", c.pc, code, c.pc+1, c.byte)
			ahead := impl.Cpu{A: 1, X: 2, Y: 3, S: 4, PC: c.pc, F: taken}
			behind := ahead
			behind.PC = c.behind
			checkStepRows(t, 4096, []stepRow{{wantedCpuText(ahead), memory, first + " " + c.cycles, wantedCpuText(behind)}})
			ahead.F, behind.F, behind.PC = not, not, c.pc+2
			checkStepRows(t, 4096, []stepRow{{wantedCpuText(ahead), memory, first, wantedCpuText(behind)}})
		}
	}
}

// TestBranchesHangOnOneFlag takes each branch with flags of all kinds.
func TestBranchesHangOnOneFlag(t *testing.T) {
	for _, way := range branchWays {
		for _, f := range allFlags() {
			c := impl.Cpu{PC: 0x0300, F: f}
			got, _, list := impl.Step(c, impl.Ram{Bytes: wantedFill(make([]byte, 1024), c.PC, []byte{codeNamed(way.name), 0x10})})
			set := f.N && way.only.N || f.V && way.only.V || f.C && way.only.C || f.Z && way.only.Z
			wantPC, wantCount := uint16(0x0302), 2
			if set == way.set {
				wantPC, wantCount = 0x0312, 3
			}
			if got.PC != wantPC || len(list) != wantCount || got.F != f {
				t.Errorf("%s with %v: %s and %d cycles", way.name, f, wantedCpuText(got), len(list))
			}
		}
	}
}

func TestBranchesOfEachByte(t *testing.T) {
	for _, code := range codesOfKind(impl.KBranch) {
		for _, pc := range []uint16{0, 0x0300, 0x037F, 0x03FC, 0x03FD, 0x03FE, 0x03FF, 0xFF80, 0xFFFC, 0xFFFD, 0xFFFE, 0xFFFF} {
			for way := range 256 {
				for _, f := range []impl.Flags{{}, otherFlags(impl.Flags{})} {
					checkStep(t, impl.Cpu{PC: pc, F: f}, ramWith(512, uint32(way), pc, code, byte(way)))
				}
			}
		}
	}
}

func TestJumpsByHand(t *testing.T) {
	const cpu = "A=40 X=02 Y=10 S=FD PC=0300 NVDIZC"
	const behind = "A=40 X=02 Y=10 S=FD PC=1234 NVDIZC"
	checkStepRows(t, 4096, []stepRow{
		{cpu, "0300 4C 34 12", "0300=4C 0301=34 0302=12", behind},
		{cpu, "0300 4C 00 03", "0300=4C 0301=00 0302=03", cpu},
		{cpu, "0300 6C 56 04, 0456 34 12", "0300=6C 0301=56 0302=04 0456=34 0457=12", behind},
		{cpu, "0300 6C FE 04, 04FE 34 12", "0300=6C 0301=FE 0302=04 04FE=34 04FF=12", behind},
		{cpu, "0300 6C FF 04, 04FF 34, 0400 12, 0500 99", "0300=6C 0301=FF 0302=04 04FF=34 0400=12", behind},
		{cpu, "0300 6C FF 00, 00FF 34, 0000 12, 0100 99", "0300=6C 0301=FF 0302=00 00FF=34 0000=12", behind},
		{cpu, "0300 6C FF FF, FFFF 34, FF00 12, 0000 99", "0300=6C 0301=FF 0302=FF FFFF=34 FF00=12", behind},
		{cpu, "0300 6C FE FF, FFFE 34 12", "0300=6C 0301=FE 0302=FF FFFE=34 FFFF=12", behind},
		{"A=40 X=02 Y=10 S=FD PC=FFFE ------", "FFFE 4C 34 12", "FFFE=4C FFFF=34 0000=12", "A=40 X=02 Y=10 S=FD PC=1234 ------"},
		{"A=40 X=02 Y=10 S=FD PC=FFFF ------", "FFFF 6C 56 04, 0456 34 12", "FFFF=6C 0000=56 0001=04 0456=34 0457=12", "A=40 X=02 Y=10 S=FD PC=1234 ------"},
	})
}

func TestJumpsThroughEachPlaceOfAPage(t *testing.T) {
	for low := range 256 {
		for _, high := range []byte{0x00, 0x04, 0xFF} {
			c := impl.Cpu{PC: 0x0A80}
			r := ramWith(4096, uint32(low), c.PC, 0x6C, byte(low), high)
			got, _, _ := checkStep(t, c, r)
			first := int(high)*256 + low
			second := int(high)*256 + (low+1)%256
			if want := uint16(r.Bytes[first%4096]) | uint16(r.Bytes[second%4096])<<8; got.PC != want {
				t.Errorf("JMP ($%02X%02X) leads to %04X, want %04X", high, low, got.PC, want)
			}
		}
	}
}

// stackRow tells an operation at 0300 by the S that it begins with; @n is
// the address of stack S + n.
type stackRow struct {
	code   byte
	cycles []string
	s      int
	pc     string
	f      string
}

// stackCycles writes the cycles of a row for an S, and tells the memory in
// which it reads them.
func stackCycles(row stackRow, s byte) (cycles string, memory string) {
	for i, cycle := range row.cycles {
		if cycle[0] == '@' {
			var by int
			var rest string
			fmt.Sscanf(cycle, "@%d%s", &by, &rest)
			cycle = fmt.Sprintf("%04X%s", stack(int(s)+by), rest)
		}
		if i > 0 {
			cycles += " "
		}
		cycles += cycle
		if cycle[len(cycle)-1] != '!' {
			memory += fmt.Sprintf("%s %s, ", cycle[:4], cycle[5:])
		}
	}
	return cycles, memory
}

func TestStackByHand(t *testing.T) {
	for _, row := range []stackRow{
		{0x20, []string{"0300=20", "0301=34", "@0=77", "@0=03!", "@-1=02!", "0302=12"}, -2, "1234", "N--I-C"},
		{0x60, []string{"0300=60", "0301=55", "@0=77", "@1=34", "@2=12", "1234=66"}, 2, "1235", "N--I-C"},
		{0x60, []string{"0300=60", "0301=55", "@0=77", "@1=FF", "@2=FF", "FFFF=66"}, 2, "0000", "N--I-C"},
		{0x60, []string{"0300=60", "0301=55", "@0=77", "@1=FF", "@2=04", "04FF=66"}, 2, "0500", "N--I-C"},
		{0x40, []string{"0300=40", "0301=55", "@0=77", "@1=4A", "@2=34", "@3=12"}, 3, "1234", "-VD-Z-"},
		{0x40, []string{"0300=40", "0301=55", "@0=77", "@1=B5", "@2=FF", "@3=FF"}, 3, "FFFF", "N--I-C"},
		{0x40, []string{"0300=40", "0301=55", "@0=77", "@1=30", "@2=00", "@3=00"}, 3, "0000", "------"},
		{0x40, []string{"0300=40", "0301=55", "@0=77", "@1=CF", "@2=00", "@3=03"}, 3, "0300", "NVDIZC"},
		{0x00, []string{"0300=00", "0301=55", "@0=03!", "@-1=02!", "@-2=B5!", "FFFE=34", "FFFF=12"}, -3, "1234", "N--I-C"},
		{0x48, []string{"0300=48", "0301=55", "@0=5A!"}, -1, "0301", "N--I-C"},
		{0x08, []string{"0300=08", "0301=55", "@0=B5!"}, -1, "0301", "N--I-C"},
		{0x28, []string{"0300=28", "0301=55", "@0=77", "@1=4A"}, 1, "0301", "-VD-Z-"},
		{0x28, []string{"0300=28", "0301=55", "@0=77", "@1=30"}, 1, "0301", "------"},
		{0x28, []string{"0300=28", "0301=55", "@0=77", "@1=FF"}, 1, "0301", "NVDIZC"},
		{0x68, []string{"0300=68", "0301=55", "@0=77", "@1=5A"}, 1, "0301", "---I-C"},
	} {
		for _, s := range append([]byte{3, 0x80, 252}, stackEnds...) {
			cycles, memory := stackCycles(row, s)
			ahead := fmt.Sprintf("A=5A X=22 Y=33 S=%02X PC=0300 N--I-C", s)
			behind := fmt.Sprintf("A=5A X=22 Y=33 S=%02X PC=%s %s", byte(int(s)+row.s), row.pc, row.f)
			checkStepRows(t, 4096, []stepRow{{ahead, memory, cycles, behind}})
		}
	}
}

func TestPulledBytesByHand(t *testing.T) {
	for _, c := range []struct {
		pulled byte
		flags  string
	}{
		{0x00, "-VDIZC"}, {0x01, "-VDI-C"}, {0x7F, "-VDI-C"}, {0x80, "NVDI-C"}, {0xFF, "NVDI-C"},
	} {
		for _, ahead := range []string{"NVDIZC", "-VDI-C"} {
			checkStepRows(t, 512, []stepRow{{
				"A=11 X=22 Y=33 S=FF PC=0010 " + ahead,
				fmt.Sprintf("0010 68 55, 01FF 77, 0100 %02X", c.pulled),
				fmt.Sprintf("0010=68 0011=55 01FF=77 0100=%02X", c.pulled),
				fmt.Sprintf("A=%02X X=22 Y=33 S=00 PC=0011 %s", c.pulled, c.flags),
			}})
		}
	}
}

// TestPushedFlags looks at the byte of all flags that PHP, BRK and Serve push.
func TestPushedFlags(t *testing.T) {
	for _, f := range allFlags() {
		c := impl.Cpu{S: 0xFD, PC: 0x0300, F: f}
		_, _, pushed := impl.Step(c, ramOf(t, 4096, "0300 08"))
		_, _, broken := impl.Step(c, ramOf(t, 4096, "0300 00"))
		_, _, served := impl.Serve(c, ramOf(t, 4096, "0300 00"), false)
		want := impl.PackP(f, true)
		if len(pushed) != 3 || pushed[2] != (impl.Cyc{Addr: 0x01FD, Data: want, Write: true}) {
			t.Errorf("PHP with %v: %s", f, cyclesText(pushed))
		}
		if len(broken) != 7 || broken[4] != (impl.Cyc{Addr: 0x01FB, Data: want, Write: true}) {
			t.Errorf("BRK with %v: %s", f, cyclesText(broken))
		}
		if len(served) != 7 || served[4] != (impl.Cyc{Addr: 0x01FB, Data: want &^ 0x10, Write: true}) {
			t.Errorf("an interrupt with %v: %s", f, cyclesText(served))
		}
	}
}

func TestStackOfEachS(t *testing.T) {
	for _, code := range codesOfKind(flowKinds...) {
		for s := range 256 {
			for seed := range uint32(8) {
				for _, size := range ramSizes {
					c := mixedCpu(seed*256 + uint32(s))
					c.S = byte(s)
					checkStep(t, c, ramWith(size, seed+uint32(s), c.PC, code))
				}
			}
		}
	}
}

// checkServe holds an interrupt against the model, and tells what it was.
func checkServe(t *testing.T, c impl.Cpu, r impl.Ram, nmi bool) (impl.Cpu, impl.Ram, []impl.Cyc) {
	t.Helper()
	wantCpu, wantBytes, wantCycles := wantedServe(c, r, nmi)
	before := bytes.Clone(r.Bytes)
	gotCpu, gotRam, gotCycles := impl.Serve(c, r, nmi)
	what := fmt.Sprintf("%s, %d bytes, nmi %v", wantedCpuText(c), len(before), nmi)
	if gotCpu != wantCpu {
		t.Fatalf("%s: processor %s, want %s", what, wantedCpuText(gotCpu), wantedCpuText(wantCpu))
	}
	if cyclesText(gotCycles) != cyclesText(wantCycles) {
		t.Fatalf("%s: cycles\n\t%s, want\n\t%s", what, cyclesText(gotCycles), cyclesText(wantCycles))
	}
	if !bytes.Equal(gotRam.Bytes, wantBytes) || !bytes.Equal(r.Bytes, before) {
		t.Fatalf("%s: the memory behind is wrong, or the argument changed", what)
	}
	checkCycles(t, before, gotCycles, gotRam.Bytes)
	return gotCpu, gotRam, gotCycles
}

func TestServeByHand(t *testing.T) {
	const memory = "1234 77 88, FFFA 00 05 00 00 00 06"
	for _, c := range []struct {
		s           byte
		flags, want string
		nmi         bool
		cycles      string
		behind      string
	}{
		{0xFD, "------", "---I--", true, "01FD=12! 01FC=34! 01FB=20! FFFA=00 FFFB=05", "S=FA PC=0500"},
		{0xFD, "------", "---I--", false, "01FD=12! 01FC=34! 01FB=20! FFFE=00 FFFF=06", "S=FA PC=0600"},
		{0xFD, "NVDIZC", "NVDIZC", true, "01FD=12! 01FC=34! 01FB=EF! FFFA=00 FFFB=05", "S=FA PC=0500"},
		// Serve doesn't ask whether I is set: who calls it does.
		{0xFD, "NVDIZC", "NVDIZC", false, "01FD=12! 01FC=34! 01FB=EF! FFFE=00 FFFF=06", "S=FA PC=0600"},
		{0xFF, "N----C", "N--I-C", false, "01FF=12! 01FE=34! 01FD=A1! FFFE=00 FFFF=06", "S=FC PC=0600"},
		{0xFE, "-V--Z-", "-V-IZ-", true, "01FE=12! 01FD=34! 01FC=62! FFFA=00 FFFB=05", "S=FB PC=0500"},
		{0x02, "--D---", "--DI--", false, "0102=12! 0101=34! 0100=28! FFFE=00 FFFF=06", "S=FF PC=0600"},
		{0x01, "--D---", "--DI--", true, "0101=12! 0100=34! 01FF=28! FFFA=00 FFFB=05", "S=FE PC=0500"},
		{0x00, "---I--", "---I--", false, "0100=12! 01FF=34! 01FE=24! FFFE=00 FFFF=06", "S=FD PC=0600"},
	} {
		ahead := cpuOf(t, fmt.Sprintf("A=11 X=22 Y=33 S=%02X PC=1234 %s", c.s, c.flags))
		r := ramOf(t, 4096, memory)
		got, s, list := impl.Serve(ahead, r, c.nmi)
		if want := "1234=77 1234=77 " + c.cycles; cyclesText(list) != want {
			t.Errorf("S=%02X, nmi %v: %s, want %s", c.s, c.nmi, cyclesText(list), want)
		}
		if want := "A=11 X=22 Y=33 " + c.behind + " " + c.want; wantedCpuText(got) != want {
			t.Errorf("S=%02X, nmi %v: %s, want %s", c.s, c.nmi, wantedCpuText(got), want)
		}
		if !bytes.Equal(s.Bytes, withWrites(r.Bytes, list)) {
			t.Errorf("S=%02X, nmi %v: the memory behind is wrong", c.s, c.nmi)
		}
	}
}

func TestServeOfEachS(t *testing.T) {
	for s := range 256 {
		for seed := range uint32(6) {
			for _, size := range ramSizes {
				for _, nmi := range []bool{false, true} {
					c := mixedCpu(seed*256 + uint32(s))
					c.S = byte(s)
					checkServe(t, c, ramWith(size, seed+uint32(s), 0, 0), nmi)
				}
			}
		}
	}
}

// TestServeAtAnyByte interrupts ahead of bytes that are operations and ones that are none.
func TestServeAtAnyByte(t *testing.T) {
	for code := range 256 {
		for _, pc := range []uint16{0, 0x0300, 0xFFFE, 0xFFFF} {
			for _, nmi := range []bool{false, true} {
				checkServe(t, impl.Cpu{S: 0xFD, PC: pc}, ramWith(1024, uint32(code), pc, byte(code)), nmi)
			}
		}
	}
}

func TestInterruptsAndRtiLeaveAllButMemory(t *testing.T) {
	count := 0
	for s := range 256 {
		for _, f := range allFlags() {
			for _, nmi := range []bool{false, true} {
				c := mixedCpu(uint32(s))
				c.S, c.F = byte(s), f
				r := ramWith(4096, uint32(s), 0x0480, 0x40)
				r.Bytes = wantedFill(r.Bytes, 0xFFFA, []byte{0x80, 0x04, 0, 0, 0x80, 0x04})
				inside, served, _ := checkServe(t, c, r, nmi)
				if inside.PC != 0x0480 || !inside.F.I {
					t.Fatalf("S=%02X: the interrupt leads to %s", s, wantedCpuText(inside))
				}
				behind, _, list := checkStep(t, inside, served)
				if behind != c || len(list) != 6 {
					t.Fatalf("S=%02X: %s became %s", s, wantedCpuText(c), wantedCpuText(behind))
				}
				count++
			}
		}
	}
	if count != 256*64*2 {
		t.Errorf("%d interrupts were looked at", count)
	}
}

func TestBrkAndRtiLeaveAllButMemory(t *testing.T) {
	for s := range 256 {
		for _, f := range allFlags() {
			c := impl.Cpu{A: 1, X: 2, Y: 3, S: byte(s), PC: 0x0300, F: f}
			inside, broken, _ := checkStep(t, c, ramOf(t, 4096, "0300 00, 0480 40, FFFE 80 04"))
			behind, _, _ := checkStep(t, inside, broken)
			c.PC += 2
			if behind != c {
				t.Fatalf("S=%02X: %s, want %s", s, wantedCpuText(behind), wantedCpuText(c))
			}
		}
	}
}

func TestJsrAndRtsLeaveAllButMemory(t *testing.T) {
	for s := range 256 {
		for i, pc := range []uint16{0x0300, 0x03FC, 0x03FD, 0x03FE, 0x03FF, 0x0DFF, 0xFFFC, 0xFFFD, 0xFFFE, 0xFFFF, 0x0000} {
			c := mixedCpu(uint32(s*16 + i))
			c.S, c.PC = byte(s), pc
			r := impl.Ram{Bytes: wantedFill(make([]byte, 4096), 0x0480, []byte{0x60})}
			r.Bytes = wantedFill(r.Bytes, pc, []byte{0x20, 0x80, 0x04})
			inside, called, _ := checkStep(t, c, r)
			if inside.PC != 0x0480 || inside.S != c.S-2 {
				t.Fatalf("S=%02X: JSR leads to %s", s, wantedCpuText(inside))
			}
			behind, _, list := checkStep(t, inside, called)
			c.PC += 3
			if behind != c {
				t.Fatalf("S=%02X: %s, want %s", s, wantedCpuText(behind), wantedCpuText(c))
			}
			// The last cycle is at the JSR's own last byte.
			if last := (impl.Cyc{Addr: pc + 2, Data: 0x04}); len(list) != 6 || list[5] != last {
				t.Fatalf("S=%02X: RTS shows %s", s, cyclesText(list))
			}
		}
	}
}

func TestPushesArePulled(t *testing.T) {
	for s := range 256 {
		for value := range 256 {
			c := impl.Cpu{A: byte(value), S: byte(s), PC: 0x0300, F: impl.UnpackP(byte(value))}
			for _, pair := range []string{"0300 48 68", "0300 08 28"} {
				pushed, r, _ := impl.Step(c, ramOf(t, 1024, pair))
				pulled, _, _ := impl.Step(pushed, r)
				want := c
				want.PC += 2
				if pair == "0300 48 68" {
					want.F = impl.NZ(want.A, want.F)
				}
				if pushed.S != c.S-1 || pulled != want {
					t.Fatalf("%s, S=%02X: %s, want %s", pair, s, wantedCpuText(pulled), wantedCpuText(want))
				}
			}
		}
	}
}

func TestJamsOfEachByte(t *testing.T) {
	count := 0
	for code := range 256 {
		want := chapterOperations[code] == noOperation
		for _, size := range ramSizes {
			for _, addr := range someAddresses(size) {
				// All other bytes are of the other kind.
				other := byte(0xEA)
				if !want {
					other = 0x02
				}
				r := impl.Ram{Bytes: wantedFill(bytes.Repeat([]byte{other}, size), addr, []byte{byte(code)})}
				if got := impl.Jams(r, addr); got != want {
					t.Errorf("%d bytes: Jams of %02X at %04X = %v", size, code, addr, got)
				}
				if got := impl.Jams(r, addr+1); got == want {
					t.Errorf("%d bytes: Jams behind %02X at %04X = %v", size, code, addr, got)
				}
				if got := impl.Jams(r, addr-1); got == want {
					t.Errorf("%d bytes: Jams ahead of %02X at %04X = %v", size, code, addr, got)
				}
				for _, round := range []int{size, 65536 - size} {
					if got := impl.Jams(r, addr+uint16(round)); got != want {
						t.Errorf("%d bytes: Jams of %02X at %04X = %v, %d further on", size, code, addr, got, round)
					}
				}
			}
		}
		if want {
			count++
		}
	}
	if count != 105 {
		t.Errorf("%d bytes jam, want 105", count)
	}
}

// TestJamsWhereStepsDoNothing holds both against each other at each address.
func TestJamsWhereStepsDoNothing(t *testing.T) {
	for _, size := range ramSizes {
		r := mixedRam(size)
		for pc := range 4096 {
			c := impl.Cpu{S: 0x80, PC: uint16(pc * 16)}
			_, _, list := impl.Step(c, r)
			if got := impl.Jams(r, c.PC); got != (len(list) == 0) {
				t.Errorf("%d bytes: Jams at %04X = %v, and %d cycles", size, c.PC, got, len(list))
			}
		}
	}
}
