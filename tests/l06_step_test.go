package tests

import (
	"bytes"
	"fmt"
	"slices"
	"strings"
	"testing"

	"loop.example/g00693/impl"
)

// stackEnds are the S where what is pushed or pulled goes round.
var stackEnds = []byte{0, 1, 2, 253, 254, 255}

// stepRow is a step told by hand. Memory is noughts but for some bytes, as in
// "0300 A9 80, 0010 01"; cycles are as in "0300=A9 0301=80 0010=01!", with !
// behind what is written.
type stepRow struct {
	cpu    string
	memory string
	cycles string
	behind string
}

func cpuOf(t *testing.T, text string) impl.Cpu {
	t.Helper()
	c, ok := wantedCpu(text)
	if !ok {
		t.Fatalf("%q is no processor", text)
	}
	return c
}

func ramOf(t *testing.T, size int, text string) impl.Ram {
	t.Helper()
	b := make([]byte, size)
	for part := range strings.SplitSeq(text, ",") {
		var addr, one int
		for i, word := range strings.Fields(part) {
			if i == 0 {
				fmt.Sscanf(word, "%X", &addr)
				continue
			}
			fmt.Sscanf(word, "%X", &one)
			b[(addr+i-1)%65536%size] = byte(one)
		}
	}
	return impl.Ram{Bytes: withRoom(b)}
}

func cyclesOf(text string) []impl.Cyc {
	var list []impl.Cyc
	for _, word := range strings.Fields(text) {
		var c impl.Cyc
		fmt.Sscanf(word, "%X=%X", &c.Addr, &c.Data)
		c.Write = strings.HasSuffix(word, "!")
		list = append(list, c)
	}
	return list
}

func cyclesText(list []impl.Cyc) string {
	text := ""
	for _, c := range list {
		text += fmt.Sprintf(" %04X=%02X", c.Addr, c.Data)
		if c.Write {
			text += "!"
		}
	}
	return strings.TrimSpace(text)
}

// withWrites tells bytes with all that cycles write, in their order.
func withWrites(b []byte, list []impl.Cyc) []byte {
	b = slices.Clone(b)
	for _, c := range list {
		if c.Write {
			b[int(c.Addr)%len(b)] = c.Data
		}
	}
	return b
}

func checkStepRows(t *testing.T, size int, rows []stepRow) {
	t.Helper()
	for _, row := range rows {
		r := ramOf(t, size, row.memory)
		wantBytes := withWrites(r.Bytes, cyclesOf(row.cycles))
		c, s, list := impl.Step(cpuOf(t, row.cpu), r)
		if got := cyclesText(list); got != row.cycles {
			t.Errorf("%s (%d bytes): cycles\n\t%s, want\n\t%s", row.memory, size, got, row.cycles)
		}
		if got := wantedCpuText(c); got != row.behind {
			t.Errorf("%s (%d bytes): processor\n\t%s, want\n\t%s", row.memory, size, got, row.behind)
		}
		if !bytes.Equal(s.Bytes, wantBytes) {
			t.Errorf("%s (%d bytes): the memory behind is wrong", row.memory, size)
		}
	}
}

// checkStep holds a step against the model, and tells what it was.
func checkStep(t *testing.T, c impl.Cpu, r impl.Ram) (impl.Cpu, impl.Ram, []impl.Cyc) {
	t.Helper()
	wantCpu, wantBytes, wantCycles := wantedStep(c, r)
	before := slices.Clone(r.Bytes)
	gotCpu, gotRam, gotCycles := impl.Step(c, r)
	what := fmt.Sprintf("%s of %02X, %d bytes", wantedCpuText(c), before[int(c.PC)%len(before)], len(before))
	if gotCpu != wantCpu {
		t.Fatalf("%s: processor\n\t%s, want\n\t%s", what, wantedCpuText(gotCpu), wantedCpuText(wantCpu))
	}
	if !slices.Equal(gotCycles, wantCycles) {
		t.Fatalf("%s: cycles\n\t%s, want\n\t%s", what, cyclesText(gotCycles), cyclesText(wantCycles))
	}
	if !bytes.Equal(gotRam.Bytes, wantBytes) {
		t.Fatalf("%s: the memory behind is wrong", what)
	}
	if !bytes.Equal(r.Bytes, before) {
		t.Fatalf("%s: the argument changed", what)
	}
	return gotCpu, gotRam, gotCycles
}

// checkCycles looks at what the promise says of cycles alone: what is read was
// there, and what is written is the memory behind.
func checkCycles(t *testing.T, before []byte, list []impl.Cyc, behind []byte) {
	t.Helper()
	b := slices.Clone(before)
	for i, c := range list {
		place := int(c.Addr) % len(b)
		if c.Write {
			b[place] = c.Data
		} else if b[place] != c.Data {
			t.Fatalf("cycle %d of %s: %02X was there", i, cyclesText(list), b[place])
		}
	}
	if !bytes.Equal(b, behind) {
		t.Fatalf("%s: what is written isn't the memory behind", cyclesText(list))
	}
}

// codesOfKind tells the bytes of some kinds.
func codesOfKind(kinds ...int) []byte {
	var all []byte
	for code, op := range chapterOperations {
		if slices.Contains(kinds, op.kind) {
			all = append(all, byte(code))
		}
	}
	return all
}

// codeNamed tells the byte of a name that has one mode alone.
func codeNamed(name string) byte {
	for code, op := range chapterOperations {
		if op.name == name {
			return byte(code)
		}
	}
	panic("no operation has the name " + name)
}

// ramWith tells a memory of mixed bytes, with some of them from an address on.
func ramWith(size int, seed uint32, addr uint16, list ...byte) impl.Ram {
	return impl.Ram{Bytes: wantedFill(mixedBytes(size, seed), addr, list)}
}

// mixedCpu tells a processor of mixed registers and flags.
func mixedCpu(seed uint32) impl.Cpu {
	b := mixedBytes(7, seed*2654435761+1)
	return impl.Cpu{A: b[0], X: b[1], Y: b[2], S: b[3], PC: uint16(b[4])<<8 | uint16(b[5]), F: impl.UnpackP(b[6])}
}

func TestStepOfEachByte(t *testing.T) {
	for code := range 256 {
		for _, size := range ramSizes {
			for seed := range uint32(150) {
				c := mixedCpu(seed + uint32(code)*1000 + uint32(size))
				r := ramWith(size, seed*7+uint32(code), c.PC, byte(code))
				behind, s, list := checkStep(t, c, r)
				checkCycles(t, r.Bytes, list, s.Bytes)
				if chapterOperations[code] == noOperation {
					if behind != c || len(list) != 0 || !bytes.Equal(s.Bytes, r.Bytes) {
						t.Fatalf("%02X is no operation, and does something", code)
					}
					continue
				}
				if first := (impl.Cyc{Addr: c.PC, Data: byte(code)}); len(list) < 2 || list[0] != first {
					t.Fatalf("%02X begins with %s, want %v", code, cyclesText(list), first)
				}
			}
		}
	}
}

// TestStepOfEachByteByHand tells for each byte what follows the first cycle
// where all bytes behind it, and all the memory, are noughts.
func TestStepOfEachByteByHand(t *testing.T) {
	const (
		zero  = "0301=00 0000=00"
		moved = "0301=00 0000=00 0000=00"
		plain = "0301=00 0302=00 0000=00"
	)
	count := 0
	for _, c := range []struct {
		mode  int
		kinds []int
		want  string
		size  uint16
	}{
		{impl.MImp, []int{impl.KImp}, "0301=00", 1},
		{impl.MAcc, []int{impl.KImp}, "0301=00", 1},
		{impl.MImm, []int{impl.KRead}, "0301=00", 2},
		{impl.MZp, []int{impl.KRead}, zero, 2},
		{impl.MZp, []int{impl.KWrite}, "0301=00 0000=00!", 2},
		{impl.MZpX, []int{impl.KRead}, moved, 2},
		{impl.MZpX, []int{impl.KWrite}, zero + " 0000=00!", 2},
		{impl.MZpY, []int{impl.KRead}, moved, 2},
		{impl.MZpY, []int{impl.KWrite}, zero + " 0000=00!", 2},
		{impl.MAbs, []int{impl.KRead}, plain, 3},
		{impl.MAbs, []int{impl.KWrite}, "0301=00 0302=00 0000=00!", 3},
		{impl.MAbsX, []int{impl.KRead}, plain, 3},
		{impl.MAbsX, []int{impl.KWrite}, plain + " 0000=00!", 3},
		{impl.MAbsY, []int{impl.KRead}, plain, 3},
		{impl.MAbsY, []int{impl.KWrite}, plain + " 0000=00!", 3},
		{impl.MIndX, []int{impl.KRead}, "0301=00 0000=00 0000=00 0001=00 0000=00", 2},
		{impl.MIndX, []int{impl.KWrite}, "0301=00 0000=00 0000=00 0001=00 0000=00!", 2},
		{impl.MIndY, []int{impl.KRead}, "0301=00 0000=00 0001=00 0000=00", 2},
		{impl.MIndY, []int{impl.KWrite}, "0301=00 0000=00 0001=00 0000=00 0000=00!", 2},
		{impl.MImp, []int{impl.KBack}, "0301=00 01FD=00 01FE=00 01FF=00 0000=00", 0},
		{impl.MImp, []int{impl.KRti}, "0301=00 01FD=00 01FE=00 01FF=00 0100=00", 0},
		{impl.MImp, []int{impl.KPull}, "0301=00 01FD=00 01FE=00", 1},
		{impl.MAbs, []int{impl.KJump}, "0301=00 0302=00", 0},
		{impl.MInd, []int{impl.KJump}, "0301=00 0302=00 0000=00 0001=00", 0},
		{impl.MAbs, []int{impl.KSub}, "0301=00 01FD=00 01FD=03! 01FC=02! 0302=00", 0},
		{impl.MImp, []int{impl.KBrk}, "0301=00 01FD=03! 01FC=02! 01FB=30! FFFE=00 FFFF=00", 0},
	} {
		for _, code := range codesOfKind(c.kinds...) {
			if impl.ModeOf(code) != c.mode {
				continue
			}
			count++
			r := ramOf(t, 4096, fmt.Sprintf("0300 %02X", code))
			got, _, list := impl.Step(impl.Cpu{S: 0xFD, PC: 0x0300}, r)
			if want := fmt.Sprintf("0300=%02X %s", code, c.want); cyclesText(list) != want {
				t.Errorf("%s: %s, want %s", impl.NameOf(code), cyclesText(list), want)
			}
			if c.size > 0 && got.PC != 0x0300+c.size {
				t.Errorf("%s: PC is %04X behind it", impl.NameOf(code), got.PC)
			}
		}
	}
	// What is left has tests by hand of its own.
	count += len(codesOfKind(impl.KModify, impl.KBranch, impl.KPush))
	if count != 151 {
		t.Errorf("%d operations were looked at, want 151", count)
	}
}

func TestReadsByHand(t *testing.T) {
	const cpu = "A=40 X=02 Y=10 S=FD PC=0300 ------"
	checkStepRows(t, 4096, []stepRow{
		{cpu, "0300 A9 80", "0300=A9 0301=80", "A=80 X=02 Y=10 S=FD PC=0302 N-----"},
		{cpu, "0300 A5 21, 0021 7F", "0300=A5 0301=21 0021=7F", "A=7F X=02 Y=10 S=FD PC=0302 ------"},
		{cpu, "0300 A5 FF, 00FF 00", "0300=A5 0301=FF 00FF=00", "A=00 X=02 Y=10 S=FD PC=0302 ----Z-"},
		{cpu, "0300 B5 21, 0021 0A, 0023 0B", "0300=B5 0301=21 0021=0A 0023=0B", "A=0B X=02 Y=10 S=FD PC=0302 ------"},
		{cpu, "0300 B5 FD, 00FD 0A, 00FF 0B", "0300=B5 0301=FD 00FD=0A 00FF=0B", "A=0B X=02 Y=10 S=FD PC=0302 ------"},
		{cpu, "0300 B5 FE, 00FE 0A, 0000 0B, 0100 0C", "0300=B5 0301=FE 00FE=0A 0000=0B", "A=0B X=02 Y=10 S=FD PC=0302 ------"},
		{cpu, "0300 B4 FF, 00FF 0A, 0001 8B, 0101 0C", "0300=B4 0301=FF 00FF=0A 0001=8B", "A=40 X=02 Y=8B S=FD PC=0302 N-----"},
		{cpu, "0300 B6 EF, 00EF 0A, 00FF 0B", "0300=B6 0301=EF 00EF=0A 00FF=0B", "A=40 X=0B Y=10 S=FD PC=0302 ------"},
		{cpu, "0300 B6 F8, 00F8 0A, 0008 0B, 0108 0C", "0300=B6 0301=F8 00F8=0A 0008=0B", "A=40 X=0B Y=10 S=FD PC=0302 ------"},
		{cpu, "0300 AD 34 02, 0234 0B", "0300=AD 0301=34 0302=02 0234=0B", "A=0B X=02 Y=10 S=FD PC=0303 ------"},
		{cpu, "0300 AD FF FF, FFFF 0B", "0300=AD 0301=FF 0302=FF FFFF=0B", "A=0B X=02 Y=10 S=FD PC=0303 ------"},
		{cpu, "0300 BD FD 04, 04FF 0B", "0300=BD 0301=FD 0302=04 04FF=0B", "A=0B X=02 Y=10 S=FD PC=0303 ------"},
		{cpu, "0300 BD FE 04, 0400 0A, 0500 0B", "0300=BD 0301=FE 0302=04 0400=0A 0500=0B", "A=0B X=02 Y=10 S=FD PC=0303 ------"},
		{cpu, "0300 BD FF FF, FF01 0A, 0001 0B", "0300=BD 0301=FF 0302=FF FF01=0A 0001=0B", "A=0B X=02 Y=10 S=FD PC=0303 ------"},
		{cpu, "0300 BC FF 04, 0401 0A, 0501 0B", "0300=BC 0301=FF 0302=04 0401=0A 0501=0B", "A=40 X=02 Y=0B S=FD PC=0303 ------"},
		{cpu, "0300 B9 EF 04, 04FF 0B", "0300=B9 0301=EF 0302=04 04FF=0B", "A=0B X=02 Y=10 S=FD PC=0303 ------"},
		{cpu, "0300 B9 F0 04, 0400 0A, 0500 0B", "0300=B9 0301=F0 0302=04 0400=0A 0500=0B", "A=0B X=02 Y=10 S=FD PC=0303 ------"},
		{cpu, "0300 BE F8 FF, FF08 0A, 0008 0B", "0300=BE 0301=F8 0302=FF FF08=0A 0008=0B", "A=40 X=0B Y=10 S=FD PC=0303 ------"},
		{cpu, "0300 A1 21, 0021 0A, 0023 34 02, 0234 0B", "0300=A1 0301=21 0021=0A 0023=34 0024=02 0234=0B", "A=0B X=02 Y=10 S=FD PC=0302 ------"},
		{cpu, "0300 A1 FD, 00FD 0A, 00FF 34, 0000 02, 0100 09, 0234 0B", "0300=A1 0301=FD 00FD=0A 00FF=34 0000=02 0234=0B", "A=0B X=02 Y=10 S=FD PC=0302 ------"},
		{cpu, "0300 A1 FE, 00FE 0A, 0000 34 02, 0100 09 09, 0234 0B", "0300=A1 0301=FE 00FE=0A 0000=34 0001=02 0234=0B", "A=0B X=02 Y=10 S=FD PC=0302 ------"},
		{cpu, "0300 A1 FF, 00FF 0A, 0001 34 02, 0234 0B", "0300=A1 0301=FF 00FF=0A 0001=34 0002=02 0234=0B", "A=0B X=02 Y=10 S=FD PC=0302 ------"},
		{cpu, "0300 B1 21, 0021 EF 04, 04FF 0B", "0300=B1 0301=21 0021=EF 0022=04 04FF=0B", "A=0B X=02 Y=10 S=FD PC=0302 ------"},
		{cpu, "0300 B1 21, 0021 F0 04, 0400 0A, 0500 0B", "0300=B1 0301=21 0021=F0 0022=04 0400=0A 0500=0B", "A=0B X=02 Y=10 S=FD PC=0302 ------"},
		{cpu, "0300 B1 FF, 00FF 34, 0000 02, 0100 09, 0244 0B", "0300=B1 0301=FF 00FF=34 0000=02 0244=0B", "A=0B X=02 Y=10 S=FD PC=0302 ------"},
		{cpu, "0300 B1 21, 0021 F8 FF, FF08 0A, 0008 0B", "0300=B1 0301=21 0021=F8 0022=FF FF08=0A 0008=0B", "A=0B X=02 Y=10 S=FD PC=0302 ------"},
	})
}

func TestWritesByHand(t *testing.T) {
	const cpu = "A=40 X=02 Y=10 S=FD PC=0300 NVDIZC"
	const two = "A=40 X=02 Y=10 S=FD PC=0302 NVDIZC"
	const three = "A=40 X=02 Y=10 S=FD PC=0303 NVDIZC"
	checkStepRows(t, 4096, []stepRow{
		{cpu, "0300 85 21, 0021 0A", "0300=85 0301=21 0021=40!", two},
		{cpu, "0300 86 21", "0300=86 0301=21 0021=02!", two},
		{cpu, "0300 84 21", "0300=84 0301=21 0021=10!", two},
		{cpu, "0300 95 21, 0021 0A", "0300=95 0301=21 0021=0A 0023=40!", two},
		{cpu, "0300 95 FF, 00FF 0A", "0300=95 0301=FF 00FF=0A 0001=40!", two},
		{cpu, "0300 94 FE, 00FE 0A", "0300=94 0301=FE 00FE=0A 0000=10!", two},
		{cpu, "0300 96 F0, 00F0 0A", "0300=96 0301=F0 00F0=0A 0000=02!", two},
		{cpu, "0300 96 EF, 00EF 0A", "0300=96 0301=EF 00EF=0A 00FF=02!", two},
		{cpu, "0300 8D 34 02", "0300=8D 0301=34 0302=02 0234=40!", three},
		{cpu, "0300 8E 34 02", "0300=8E 0301=34 0302=02 0234=02!", three},
		{cpu, "0300 8C FF FF", "0300=8C 0301=FF 0302=FF FFFF=10!", three},
		{cpu, "0300 9D FD 04, 04FF 0A", "0300=9D 0301=FD 0302=04 04FF=0A 04FF=40!", three},
		{cpu, "0300 9D FE 04, 0400 0A", "0300=9D 0301=FE 0302=04 0400=0A 0500=40!", three},
		{cpu, "0300 9D FF FF, FF01 0A", "0300=9D 0301=FF 0302=FF FF01=0A 0001=40!", three},
		{cpu, "0300 99 EF 04, 04FF 0A", "0300=99 0301=EF 0302=04 04FF=0A 04FF=40!", three},
		{cpu, "0300 99 F0 04, 0400 0A", "0300=99 0301=F0 0302=04 0400=0A 0500=40!", three},
		{cpu, "0300 99 F8 FF, FF08 0A", "0300=99 0301=F8 0302=FF FF08=0A 0008=40!", three},
		{cpu, "0300 81 21, 0021 0A, 0023 34 02", "0300=81 0301=21 0021=0A 0023=34 0024=02 0234=40!", two},
		{cpu, "0300 81 FD, 00FD 0A, 00FF 34, 0000 02", "0300=81 0301=FD 00FD=0A 00FF=34 0000=02 0234=40!", two},
		{cpu, "0300 81 FF, 00FF 0A, 0001 34 02", "0300=81 0301=FF 00FF=0A 0001=34 0002=02 0234=40!", two},
		{cpu, "0300 91 21, 0021 EF 04, 04FF 0A", "0300=91 0301=21 0021=EF 0022=04 04FF=0A 04FF=40!", two},
		{cpu, "0300 91 21, 0021 F0 04, 0400 0A", "0300=91 0301=21 0021=F0 0022=04 0400=0A 0500=40!", two},
		{cpu, "0300 91 FF, 00FF 34, 0000 02, 0244 0A", "0300=91 0301=FF 00FF=34 0000=02 0244=0A 0244=40!", two},
		{cpu, "0300 91 21, 0021 F8 FF, FF08 0A", "0300=91 0301=21 0021=F8 0022=FF FF08=0A 0008=40!", two},
	})
}

func TestModifiesByHand(t *testing.T) {
	const cpu = "A=40 X=02 Y=10 S=FD PC=0300 -----C"
	checkStepRows(t, 4096, []stepRow{
		{cpu, "0300 E6 21, 0021 7F", "0300=E6 0301=21 0021=7F 0021=7F! 0021=80!", "A=40 X=02 Y=10 S=FD PC=0302 N----C"},
		{cpu, "0300 C6 21, 0021 01", "0300=C6 0301=21 0021=01 0021=01! 0021=00!", "A=40 X=02 Y=10 S=FD PC=0302 ----ZC"},
		{cpu, "0300 06 21, 0021 81", "0300=06 0301=21 0021=81 0021=81! 0021=02!", "A=40 X=02 Y=10 S=FD PC=0302 -----C"},
		{cpu, "0300 26 21, 0021 40", "0300=26 0301=21 0021=40 0021=40! 0021=81!", "A=40 X=02 Y=10 S=FD PC=0302 N-----"},
		{cpu, "0300 46 21, 0021 01", "0300=46 0301=21 0021=01 0021=01! 0021=00!", "A=40 X=02 Y=10 S=FD PC=0302 ----ZC"},
		{cpu, "0300 66 21, 0021 02", "0300=66 0301=21 0021=02 0021=02! 0021=81!", "A=40 X=02 Y=10 S=FD PC=0302 N-----"},
		{cpu, "0300 F6 21, 0021 0A, 0023 0B", "0300=F6 0301=21 0021=0A 0023=0B 0023=0B! 0023=0C!", "A=40 X=02 Y=10 S=FD PC=0302 -----C"},
		{cpu, "0300 D6 FE, 00FE 0A, 0000 00", "0300=D6 0301=FE 00FE=0A 0000=00 0000=00! 0000=FF!", "A=40 X=02 Y=10 S=FD PC=0302 N----C"},
		{cpu, "0300 EE 34 02, 0234 FF", "0300=EE 0301=34 0302=02 0234=FF 0234=FF! 0234=00!", "A=40 X=02 Y=10 S=FD PC=0303 ----ZC"},
		{cpu, "0300 FE FD 04, 04FF 0B", "0300=FE 0301=FD 0302=04 04FF=0B 04FF=0B 04FF=0B! 04FF=0C!", "A=40 X=02 Y=10 S=FD PC=0303 -----C"},
		{cpu, "0300 DE FE 04, 0400 0A, 0500 0B", "0300=DE 0301=FE 0302=04 0400=0A 0500=0B 0500=0B! 0500=0A!", "A=40 X=02 Y=10 S=FD PC=0303 -----C"},
		{cpu, "0300 1E FF FF, FF01 0A, 0001 0B", "0300=1E 0301=FF 0302=FF FF01=0A 0001=0B 0001=0B! 0001=16!", "A=40 X=02 Y=10 S=FD PC=0303 ------"},
	})
}

// TestModifiesWriteTwice looks at the last three cycles of each KModify.
func TestModifiesWriteTwice(t *testing.T) {
	for _, code := range codesOfKind(impl.KModify) {
		for seed := range uint32(100) {
			c := mixedCpu(seed)
			_, _, list := checkStep(t, c, ramWith(4096, seed, c.PC, code))
			read, same, made := list[len(list)-3], list[len(list)-2], list[len(list)-1]
			if read.Write || !same.Write || !made.Write || same.Data != read.Data || same.Addr != read.Addr || made.Addr != read.Addr {
				t.Fatalf("%s: %s", impl.NameOf(code), cyclesText(list))
			}
		}
	}
}

// TestPlacesInEachMode turns X, Y and the bytes behind an operation, where
// pages are crossed and where they aren't.
func TestPlacesInEachMode(t *testing.T) {
	edges := []byte{0, 1, 2, 0x7F, 0x80, 0xFE, 0xFF}
	for _, code := range codesOfKind(impl.KRead, impl.KWrite, impl.KModify) {
		for _, low := range edges {
			for _, high := range []byte{0, 1, 3, 0x7F, 0xFE, 0xFF} {
				for _, index := range edges {
					c := impl.Cpu{A: 0x5A, X: index, Y: index, S: 0xFD, PC: 0x0A80}
					r := ramWith(4096, uint32(low)*256+uint32(high), c.PC, code, low, high)
					// Pointers of all places of page 0 lead into that page too.
					for place := range 256 {
						r.Bytes[place] = []byte{low, high}[(place+int(low)+int(index))%2]
					}
					checkStep(t, c, r)
				}
			}
		}
	}
}

// TestCrossedPagesTakeACycle counts cycles by the page of the place.
func TestCrossedPagesTakeACycle(t *testing.T) {
	for _, code := range codesOfKind(impl.KRead, impl.KWrite, impl.KModify) {
		op := chapterOperations[code]
		plain, ok := map[int]int{impl.MAbsX: 4, impl.MAbsY: 4, impl.MIndY: 5}[op.mode]
		if !ok {
			continue
		}
		for low := range 256 {
			for _, index := range []byte{0, 1, 0x80, 0xFF} {
				c := impl.Cpu{X: index, Y: index, PC: 0x0A80}
				r := ramWith(4096, 1, c.PC, code, byte(low), 0x04)
				if op.mode == impl.MIndY {
					r = ramWith(4096, 1, c.PC, code, 0x21)
					r.Bytes[0x21], r.Bytes[0x22] = byte(low), 0x04
				}
				crossed := low+int(index) > 255
				want := plain
				switch {
				case op.kind == impl.KModify:
					want += 3
				case op.kind == impl.KWrite || crossed:
					want++
				}
				_, _, list := impl.Step(c, r)
				if len(list) != want {
					t.Fatalf("%s with %02X and %02X: %d cycles, want %d", op.name, low, index, len(list), want)
				}
				if early := 0x0400 + (low+int(index))%256; want > plain && int(list[plain-1].Addr) != early {
					t.Fatalf("%s with %02X and %02X: %s, want a cycle at %04X", op.name, low, index, cyclesText(list), early)
				}
				if last := 0x0400 + low + int(index); int(list[want-1].Addr) != last {
					t.Fatalf("%s with %02X and %02X: %s, want it at %04X", op.name, low, index, cyclesText(list), last)
				}
			}
		}
	}
}

func TestRegistersAndFlags(t *testing.T) {
	edges := []byte{0, 1, 127, 128, 255}
	for _, code := range codesOfKind(impl.KImp, impl.KRead, impl.KWrite, impl.KModify) {
		// One mode is as good as another one here, and those without X and Y leave these free.
		if !slices.Contains([]int{impl.MImp, impl.MAcc, impl.MImm, impl.MZp}, impl.ModeOf(code)) {
			continue
		}
		for _, register := range edges {
			for _, operand := range edges {
				for _, f := range allFlags() {
					c := impl.Cpu{A: register, X: register ^ 1, Y: register ^ 2, S: register ^ 4, PC: 0x0030, F: f}
					r := ramWith(256, 9, c.PC, code, operand)
					if impl.ModeOf(code) == impl.MZp {
						r = ramWith(256, 9, c.PC, code, 0x21)
						r.Bytes[0x21] = operand
					}
					checkStep(t, c, r)
					c.A, c.X, c.Y, c.S = register^1, register, register, register
					checkStep(t, c, r)
				}
			}
		}
	}
}

func TestRegistersAndFlagsByHand(t *testing.T) {
	for _, c := range []struct{ name, cpu, behind string }{
		{"INX", "A=11 X=FF Y=33 S=44 PC=0300 NVDI-C", "A=11 X=00 Y=33 S=44 PC=0301 -VDIZC"},
		{"INX", "A=11 X=7F Y=33 S=44 PC=0300 ----Z-", "A=11 X=80 Y=33 S=44 PC=0301 N-----"},
		{"DEX", "A=11 X=00 Y=33 S=44 PC=0300 ----Z-", "A=11 X=FF Y=33 S=44 PC=0301 N-----"},
		{"DEX", "A=11 X=80 Y=33 S=44 PC=0300 N-----", "A=11 X=7F Y=33 S=44 PC=0301 ------"},
		{"INY", "A=11 X=22 Y=FF S=44 PC=0300 NVDI-C", "A=11 X=22 Y=00 S=44 PC=0301 -VDIZC"},
		{"DEY", "A=11 X=22 Y=01 S=44 PC=0300 N-----", "A=11 X=22 Y=00 S=44 PC=0301 ----Z-"},
		{"TAX", "A=80 X=22 Y=33 S=44 PC=0300 ----Z-", "A=80 X=80 Y=33 S=44 PC=0301 N-----"},
		{"TAY", "A=00 X=22 Y=33 S=44 PC=0300 N-----", "A=00 X=22 Y=00 S=44 PC=0301 ----Z-"},
		{"TXA", "A=11 X=FF Y=33 S=44 PC=0300 ------", "A=FF X=FF Y=33 S=44 PC=0301 N-----"},
		{"TYA", "A=11 X=22 Y=7F S=44 PC=0300 N---Z-", "A=7F X=22 Y=7F S=44 PC=0301 ------"},
		{"TSX", "A=11 X=22 Y=33 S=80 PC=0300 ------", "A=11 X=80 Y=33 S=80 PC=0301 N-----"},
		{"TXS", "A=11 X=80 Y=33 S=44 PC=0300 ----Z-", "A=11 X=80 Y=33 S=80 PC=0301 ----Z-"},
		{"TXS", "A=11 X=00 Y=33 S=44 PC=0300 N-----", "A=11 X=00 Y=33 S=00 PC=0301 N-----"},
		{"CLC", "A=11 X=22 Y=33 S=44 PC=0300 NVDIZC", "A=11 X=22 Y=33 S=44 PC=0301 NVDIZ-"},
		{"SEC", "A=11 X=22 Y=33 S=44 PC=0300 ------", "A=11 X=22 Y=33 S=44 PC=0301 -----C"},
		{"CLI", "A=11 X=22 Y=33 S=44 PC=0300 NVDIZC", "A=11 X=22 Y=33 S=44 PC=0301 NVD-ZC"},
		{"SEI", "A=11 X=22 Y=33 S=44 PC=0300 ------", "A=11 X=22 Y=33 S=44 PC=0301 ---I--"},
		{"CLV", "A=11 X=22 Y=33 S=44 PC=0300 NVDIZC", "A=11 X=22 Y=33 S=44 PC=0301 N-DIZC"},
		{"CLD", "A=11 X=22 Y=33 S=44 PC=0300 NVDIZC", "A=11 X=22 Y=33 S=44 PC=0301 NV-IZC"},
		{"SED", "A=11 X=22 Y=33 S=44 PC=0300 ------", "A=11 X=22 Y=33 S=44 PC=0301 --D---"},
		{"NOP", "A=11 X=22 Y=33 S=44 PC=0300 NVDIZC", "A=11 X=22 Y=33 S=44 PC=0301 NVDIZC"},
		{"NOP", "A=11 X=22 Y=33 S=44 PC=0300 ------", "A=11 X=22 Y=33 S=44 PC=0301 ------"},
	} {
		code := codeNamed(c.name)
		checkStepRows(t, 1024, []stepRow{
			{c.cpu, fmt.Sprintf("0300 %02X 77", code), fmt.Sprintf("0300=%02X 0301=77", code), c.behind},
		})
	}
	for _, c := range []struct {
		code, operand byte
		cpu, behind   string
	}{
		{0x0A, 0x77, "A=80 X=22 Y=33 S=44 PC=0300 ------", "A=00 X=22 Y=33 S=44 PC=0301 ----ZC"},
		{0x2A, 0x77, "A=80 X=22 Y=33 S=44 PC=0300 -----C", "A=01 X=22 Y=33 S=44 PC=0301 -----C"},
		{0x4A, 0x77, "A=FF X=22 Y=33 S=44 PC=0300 N-----", "A=7F X=22 Y=33 S=44 PC=0301 -----C"},
		{0x6A, 0x77, "A=00 X=22 Y=33 S=44 PC=0300 ----ZC", "A=80 X=22 Y=33 S=44 PC=0301 N-----"},
		{0x09, 0x80, "A=01 X=22 Y=33 S=44 PC=0300 ------", "A=81 X=22 Y=33 S=44 PC=0302 N-----"},
		{0x29, 0x80, "A=7F X=22 Y=33 S=44 PC=0300 ------", "A=00 X=22 Y=33 S=44 PC=0302 ----Z-"},
		{0x49, 0xFF, "A=7F X=22 Y=33 S=44 PC=0300 ------", "A=80 X=22 Y=33 S=44 PC=0302 N-----"},
		{0x69, 0x7F, "A=00 X=22 Y=33 S=44 PC=0300 -----C", "A=80 X=22 Y=33 S=44 PC=0302 NV----"},
		{0x69, 0x99, "A=01 X=22 Y=33 S=44 PC=0300 --D---", "A=00 X=22 Y=33 S=44 PC=0302 N-D--C"},
		{0xE9, 0x01, "A=80 X=22 Y=33 S=44 PC=0300 -----C", "A=7F X=22 Y=33 S=44 PC=0302 -V---C"},
		{0xE9, 0x01, "A=10 X=22 Y=33 S=44 PC=0300 --D--C", "A=09 X=22 Y=33 S=44 PC=0302 --D--C"},
		{0xC9, 0x7F, "A=7F X=22 Y=33 S=44 PC=0300 ------", "A=7F X=22 Y=33 S=44 PC=0302 ----ZC"},
		{0xE0, 0x80, "A=FF X=7F Y=33 S=44 PC=0300 -----C", "A=FF X=7F Y=33 S=44 PC=0302 N-----"},
		{0xC0, 0x00, "A=00 X=22 Y=FF S=44 PC=0300 ------", "A=00 X=22 Y=FF S=44 PC=0302 N----C"},
		{0xA2, 0x00, "A=11 X=22 Y=33 S=44 PC=0300 N-----", "A=11 X=00 Y=33 S=44 PC=0302 ----Z-"},
		{0xA0, 0x80, "A=11 X=22 Y=33 S=44 PC=0300 ----Z-", "A=11 X=22 Y=80 S=44 PC=0302 N-----"},
	} {
		cycles := fmt.Sprintf("0300=%02X 0301=%02X", c.code, c.operand)
		checkStepRows(t, 1024, []stepRow{{c.cpu, fmt.Sprintf("0300 %02X %02X", c.code, c.operand), cycles, c.behind}})
	}
	checkStepRows(t, 1024, []stepRow{
		{"A=3F X=22 Y=33 S=44 PC=0300 ------", "0300 24 21, 0021 C0", "0300=24 0301=21 0021=C0", "A=3F X=22 Y=33 S=44 PC=0302 NV--Z-"},
		{"A=01 X=22 Y=33 S=44 PC=0300 NV--Z-", "0300 2C 21 00, 0021 01", "0300=2C 0301=21 0302=00 0021=01", "A=01 X=22 Y=33 S=44 PC=0303 ------"},
	})
}
