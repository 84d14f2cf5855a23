package tests

import (
	"bytes"
	"fmt"
	"slices"
	"testing"

	"loop.example/g00693/impl"
)

func TestProgramsGoRoundByHand(t *testing.T) {
	checkStepRows(t, 4096, []stepRow{
		{"A=40 X=02 Y=10 S=FD PC=FFFF ------", "FFFF EA 55", "FFFF=EA 0000=55", "A=40 X=02 Y=10 S=FD PC=0000 ------"},
		{"A=40 X=02 Y=10 S=FD PC=FFFE ------", "FFFE EA 55", "FFFE=EA FFFF=55", "A=40 X=02 Y=10 S=FD PC=FFFF ------"},
		{"A=40 X=02 Y=10 S=FD PC=FFFF ------", "FFFF 0A 55", "FFFF=0A 0000=55", "A=80 X=02 Y=10 S=FD PC=0000 N-----"},
		{"A=40 X=02 Y=10 S=FD PC=FFFF ------", "FFFF A9 80", "FFFF=A9 0000=80", "A=80 X=02 Y=10 S=FD PC=0001 N-----"},
		{"A=40 X=02 Y=10 S=FD PC=FFFE ------", "FFFE A9 80", "FFFE=A9 FFFF=80", "A=80 X=02 Y=10 S=FD PC=0000 N-----"},
		{"A=40 X=02 Y=10 S=FD PC=FFFF ------", "FFFF A5 21, 0021 0B", "FFFF=A5 0000=21 0021=0B", "A=0B X=02 Y=10 S=FD PC=0001 ------"},
		{"A=40 X=02 Y=10 S=FD PC=FFFF ------", "FFFF AD 34 02, 0234 0B", "FFFF=AD 0000=34 0001=02 0234=0B", "A=0B X=02 Y=10 S=FD PC=0002 ------"},
		{"A=40 X=02 Y=10 S=FD PC=FFFE ------", "FFFE 8D 34 02", "FFFE=8D FFFF=34 0000=02 0234=40!", "A=40 X=02 Y=10 S=FD PC=0001 ------"},
		{"A=40 X=02 Y=10 S=FD PC=FFFD ------", "FFFD EE 34 02", "FFFD=EE FFFE=34 FFFF=02 0234=00 0234=00! 0234=01!", "A=40 X=02 Y=10 S=FD PC=0000 ------"},
		{"A=40 X=02 Y=10 S=FD PC=FFFF ------", "FFFF 20 34 02, 01FD 77", "FFFF=20 0000=34 01FD=77 01FD=00! 01FC=01! 0001=02", "A=40 X=02 Y=10 S=FB PC=0234 ------"},
		{"A=40 X=02 Y=10 S=FD PC=FFFE ------", "FFFE 20 34 02, 01FD 77", "FFFE=20 FFFF=34 01FD=77 01FD=00! 01FC=00! 0000=02", "A=40 X=02 Y=10 S=FB PC=0234 ------"},
		{"A=40 X=02 Y=10 S=FD PC=FFFD ------", "FFFD 20 34 02, 01FD 77", "FFFD=20 FFFE=34 01FD=77 01FD=FF! 01FC=FF! FFFF=02", "A=40 X=02 Y=10 S=FB PC=0234 ------"},
		{"A=40 X=02 Y=10 S=FD PC=FFFF ------", "FFFF 00 55, FFFE 34", "FFFF=00 0000=55 01FD=00! 01FC=01! 01FB=30! FFFE=34 FFFF=00", "A=40 X=02 Y=10 S=FA PC=0034 ---I--"},
		{"A=40 X=02 Y=10 S=FD PC=FFFF ------", "FFFF 48 55", "FFFF=48 0000=55 01FD=40!", "A=40 X=02 Y=10 S=FC PC=0000 ------"},
		{"A=40 X=02 Y=10 S=FD PC=FFFF ------", "FFFF 68 55, 01FD 77 0B", "FFFF=68 0000=55 01FD=77 01FE=0B", "A=0B X=02 Y=10 S=FE PC=0000 ------"},
	})
}

func TestEachOperationNearTheLastAddress(t *testing.T) {
	for code := range 256 {
		for _, size := range ramSizes {
			for _, pc := range []uint16{0xFFFC, 0xFFFD, 0xFFFE, 0xFFFF, 0, uint16(size - 2), uint16(size - 1)} {
				for seed := range uint32(20) {
					c := mixedCpu(seed)
					c.PC = pc
					r := ramWith(size, seed+uint32(code), pc, byte(code))
					_, s, list := checkStep(t, c, r)
					checkCycles(t, r.Bytes, list, s.Bytes)
				}
			}
		}
	}
}

// TestSmallMemoriesByHand plays at addresses that go round onto others.
func TestSmallMemoriesByHand(t *testing.T) {
	const cpu = "A=40 X=02 Y=10 S=FD PC=0300 ------"
	checkStepRows(t, 256, []stepRow{
		{cpu, "0000 A9 80", "0300=A9 0301=80", "A=80 X=02 Y=10 S=FD PC=0302 N-----"},
		// The operation's own first byte is read as a pointer, and as its place.
		{cpu, "0000 A5 00", "0300=A5 0301=00 0000=A5", "A=A5 X=02 Y=10 S=FD PC=0302 N-----"},
		{cpu, "0000 BD FF 04", "0300=BD 0301=FF 0302=04 0401=FF 0501=FF", "A=FF X=02 Y=10 S=FD PC=0303 N-----"},
		{cpu, "0000 60 11, 00FD 77 FF 34", "0300=60 0301=11 01FD=77 01FE=FF 01FF=34 34FF=34", "A=40 X=02 Y=10 S=FF PC=3500 ------"},
	})
	checkStepRows(t, 512, []stepRow{
		{cpu, "0100 A1 FE, 00FE 09, 0000 34 02, 0034 11", "0300=A1 0301=FE 00FE=09 0000=34 0001=02 0234=11", "A=11 X=02 Y=10 S=FD PC=0302 ------"},
	})
}

func TestCallsWrittenOverByHand(t *testing.T) {
	checkStepRows(t, 4096, []stepRow{
		// The third byte is the high one of the address that goes to the stack,
		{"A=40 X=02 Y=10 S=FD PC=01FB ------", "01FB 20 34 12", "01FB=20 01FC=34 01FD=12 01FD=01! 01FC=FD! 01FD=01", "A=40 X=02 Y=10 S=FB PC=0134 ------"},
		// the low one,
		{"A=40 X=02 Y=10 S=FD PC=01FA ------", "01FA 20 34 12, 01FD 77", "01FA=20 01FB=34 01FD=77 01FD=01! 01FC=FC! 01FC=FC", "A=40 X=02 Y=10 S=FB PC=FC34 ------"},
		// or that of a stack that goes round.
		{"A=40 X=02 Y=10 S=00 PC=01FD ------", "01FD 20 34 12, 0100 77", "01FD=20 01FE=34 0100=77 0100=01! 01FF=FF! 01FF=FF", "A=40 X=02 Y=10 S=FE PC=FF34 ------"},
		{"A=40 X=02 Y=10 S=00 PC=00FE ------", "00FE 20 34 12", "00FE=20 00FF=34 0100=12 0100=01! 01FF=00! 0100=01", "A=40 X=02 Y=10 S=FE PC=0134 ------"},
		// The second byte was taken ahead of what is written over it.
		{"A=40 X=02 Y=10 S=FD PC=01FC ------", "01FC 20 34 12", "01FC=20 01FD=34 01FD=34 01FD=01! 01FC=FE! 01FE=12", "A=40 X=02 Y=10 S=FB PC=1234 ------"},
	})
	checkStepRows(t, 256, []stepRow{
		{"A=40 X=02 Y=10 S=02 PC=1000 ------", "1000 20 34 12", "1000=20 1001=34 0102=12 0102=10! 0101=02! 1002=10", "A=40 X=02 Y=10 S=00 PC=1034 ------"},
		{"A=40 X=02 Y=10 S=03 PC=1000 ------", "1000 20 34 12", "1000=20 1001=34 0103=00 0103=10! 0102=02! 1002=02", "A=40 X=02 Y=10 S=01 PC=0234 ------"},
		{"A=40 X=02 Y=10 S=00 PC=FFFD ------", "FFFD 20 34 12", "FFFD=20 FFFE=34 0100=00 0100=FF! 01FF=FF! FFFF=FF", "A=40 X=02 Y=10 S=FE PC=FF34 ------"},
	})
}

func TestVectorsWrittenOverByHand(t *testing.T) {
	const memory = "1034 00 55, FFFA 11 22 33 44 55 66"
	for _, size := range []int{256, 512} {
		checkStepRows(t, size, []stepRow{
			{"A=40 X=02 Y=10 S=FF PC=1034 ------", memory, "1034=00 1035=55 01FF=10! 01FE=36! 01FD=30! FFFE=36 FFFF=10", "A=40 X=02 Y=10 S=FC PC=1036 ---I--"},
			{"A=40 X=02 Y=10 S=FE PC=1034 ------", memory, "1034=00 1035=55 01FE=10! 01FD=36! 01FC=30! FFFE=10 FFFF=66", "A=40 X=02 Y=10 S=FB PC=6610 ---I--"},
			{"A=40 X=02 Y=10 S=00 PC=1034 N----C", memory, "1034=00 1035=55 0100=10! 01FF=36! 01FE=B1! FFFE=B1 FFFF=36", "A=40 X=02 Y=10 S=FD PC=36B1 N--I-C"},
			{"A=40 X=02 Y=10 S=01 PC=1034 N----C", memory, "1034=00 1035=55 0101=10! 0100=36! 01FF=B1! FFFE=55 FFFF=B1", "A=40 X=02 Y=10 S=FE PC=B155 N--I-C"},
			{"A=40 X=02 Y=10 S=FD PC=1034 ------", memory, "1034=00 1035=55 01FD=10! 01FC=36! 01FB=30! FFFE=55 FFFF=66", "A=40 X=02 Y=10 S=FA PC=6655 ---I--"},
		})
		for _, c := range []struct {
			s    byte
			nmi  bool
			want uint16
		}{
			{0xFF, false, 0x1034}, {0xFE, false, 0x6610}, {0x00, false, 0x3420}, {0x01, false, 0x2055}, {0xFB, false, 0x6655},
			{0xFB, true, 0x1034}, {0xFA, true, 0x2210}, {0xFC, true, 0x3420}, {0xFD, true, 0x2011}, {0xFF, true, 0x2211},
		} {
			got, _, _ := impl.Serve(impl.Cpu{S: c.s, PC: 0x1034}, ramOf(t, size, memory), c.nmi)
			if got.PC != c.want {
				t.Errorf("%d bytes, S=%02X, nmi %v: PC is %04X, want %04X", size, c.s, c.nmi, got.PC, c.want)
			}
		}
	}
}

func TestOwnBytesWrittenOverByHand(t *testing.T) {
	const cpu = "A=40 X=02 Y=10 S=FD PC=0300 ------"
	checkStepRows(t, 4096, []stepRow{
		{cpu, "0300 EE 00 03", "0300=EE 0301=00 0302=03 0300=EE 0300=EE! 0300=EF!", "A=40 X=02 Y=10 S=FD PC=0303 N-----"},
		{cpu, "0300 EE 01 03", "0300=EE 0301=01 0302=03 0301=01 0301=01! 0301=02!", "A=40 X=02 Y=10 S=FD PC=0303 ------"},
		{cpu, "0300 CE 02 03", "0300=CE 0301=02 0302=03 0302=03 0302=03! 0302=02!", "A=40 X=02 Y=10 S=FD PC=0303 ------"},
		{cpu, "0300 8D 00 03", "0300=8D 0301=00 0302=03 0300=40!", "A=40 X=02 Y=10 S=FD PC=0303 ------"},
		{"A=40 X=02 Y=10 S=FD PC=0021 ------", "0021 E6 22", "0021=E6 0022=22 0022=22 0022=22! 0022=23!", "A=40 X=02 Y=10 S=FD PC=0023 ------"},
		{"A=40 X=02 Y=10 S=FD PC=0021 ------", "0021 F6 1F", "0021=F6 0022=1F 001F=00 0021=F6 0021=F6! 0021=F7!", "A=40 X=02 Y=10 S=FD PC=0023 N-----"},
		{"A=40 X=02 Y=10 S=FD PC=01FD ------", "01FD 48 77", "01FD=48 01FE=77 01FD=40!", "A=40 X=02 Y=10 S=FC PC=01FE ------"},
		// BRK's own bytes are read ahead of what is written over them.
		{"A=40 X=02 Y=10 S=FD PC=01FB ------", "01FB 00 77, FFFE 34 12", "01FB=00 01FC=77 01FD=01! 01FC=FD! 01FB=30! FFFE=34 FFFF=12", "A=40 X=02 Y=10 S=FA PC=1234 ---I--"},
	})
	checkStepRows(t, 256, []stepRow{
		{cpu, "0000 EE 02 FF", "0300=EE 0301=02 0302=FF FF02=FF FF02=FF! FF02=00!", "A=40 X=02 Y=10 S=FD PC=0303 ----Z-"},
		{cpu, "0000 FE FE 04", "0300=FE 0301=FE 0302=04 0400=FE 0500=FE 0500=FE! 0500=FF!", "A=40 X=02 Y=10 S=FD PC=0303 N-----"},
		{cpu, "0000 91 01 04", "0300=91 0301=01 0001=01 0002=04 0411=00 0411=40!", "A=40 X=02 Y=10 S=FD PC=0302 ------"},
		{"A=40 X=02 Y=10 S=01 PC=0300 ------", "0000 48 77", "0300=48 0301=77 0101=40!", "A=40 X=02 Y=10 S=00 PC=0301 ------"},
	})
}

// TestEachOperationWrittenOver plays all that write, where the stack, the
// vectors and the places lie on and beside the operation itself.
func TestEachOperationWrittenOver(t *testing.T) {
	for _, code := range codesOfKind(impl.KWrite, impl.KModify, impl.KSub, impl.KBrk, impl.KPush) {
		for _, size := range []int{256, 512} {
			for _, pc := range []uint16{0x01FB, 0xFFFA, 0xFFFD, 0xFFFF, 0x1000} {
				for by := -4; by <= 4; by++ {
					for _, index := range []byte{0, 1, 0xFF} {
						near := pc + uint16(by)
						c := impl.Cpu{A: 0x5A, X: index, Y: index, S: byte(near), PC: pc}
						r := ramWith(size, uint32(by+9), pc, code, byte(near), byte(near>>8))
						_, s, list := checkStep(t, c, r)
						checkCycles(t, r.Bytes, list, s.Bytes)
					}
				}
			}
		}
	}
}

// TestWrittenProgramsRunOn plays many steps, each from what the one ahead of it left.
func TestWrittenProgramsRunOn(t *testing.T) {
	for _, size := range ramSizes {
		for seed := range uint32(60) {
			c, r := mixedCpu(seed), ramWith(size, seed, 0)
			for range 60 {
				if impl.Jams(r, c.PC) {
					r.Bytes = wantedFill(r.Bytes, c.PC, []byte{0xEE})
				}
				c, r, _ = checkStep(t, c, r)
			}
		}
	}
}

func TestStepOfNoOperation(t *testing.T) {
	count := 0
	for code, op := range chapterOperations {
		if op != noOperation {
			continue
		}
		count++
		for _, size := range ramSizes {
			for _, pc := range []uint16{0, 0x0300, 0x1234, 0xFFFF} {
				c := mixedCpu(uint32(code))
				c.PC = pc
				r := impl.Ram{Bytes: withRoom(wantedFill(mixedBytes(size, uint32(code)), pc, []byte{byte(code)}))}
				before := bytes.Clone(r.Bytes)
				got, s, list := impl.Step(c, r)
				if got != c || !bytes.Equal(s.Bytes, before) || len(list) != 0 {
					t.Errorf("%02X, %d bytes: %s and %d cycles", code, size, wantedCpuText(got), len(list))
				}
				for i := range s.Bytes {
					s.Bytes[i]++
				}
				checkUntouched(t, fmt.Sprintf("Step of %02X", code), r.Bytes, before)
			}
		}
	}
	if count != 105 {
		t.Errorf("%d bytes are no operation, want 105", count)
	}
}

func TestStepsOfMemoriesThatAreNotRight(t *testing.T) {
	memories := []impl.Ram{{}, {Bytes: []byte{}}}
	for _, size := range wrongSizes() {
		for _, one := range []byte{0x00, 0x02, 0xA9, 0xEA} {
			memories = append(memories, impl.Ram{Bytes: withRoom(bytes.Repeat([]byte{one}, size))})
		}
	}
	for _, r := range memories {
		before := bytes.Clone(r.Bytes)
		for seed := range uint32(4) {
			c := mixedCpu(seed)
			what := fmt.Sprintf("%d bytes, %s", len(before), wantedCpuText(c))
			if got, s, list := impl.Step(c, r); got != (impl.Cpu{}) || len(s.Bytes) != 0 || len(list) != 0 {
				t.Errorf("%s: Step tells %s, %d bytes and %d cycles", what, wantedCpuText(got), len(s.Bytes), len(list))
			}
			for _, nmi := range []bool{false, true} {
				if got, s, list := impl.Serve(c, r, nmi); got != (impl.Cpu{}) || len(s.Bytes) != 0 || len(list) != 0 {
					t.Errorf("%s: Serve tells %s, %d bytes and %d cycles", what, wantedCpuText(got), len(s.Bytes), len(list))
				}
			}
			if impl.Jams(r, c.PC) {
				t.Errorf("%s: it jams", what)
			}
		}
		if len(before) > 0 {
			checkUntouched(t, fmt.Sprintf("%d bytes", len(before)), r.Bytes, before)
		}
	}
}

// TestStepsAnswerNewMemory writes into all answers, and looks at the arguments
// and at answers told afterwards.
func TestStepsAnswerNewMemory(t *testing.T) {
	for code := range 256 {
		for _, size := range ramSizes {
			c := mixedCpu(uint32(code))
			start := wantedFill(mixedBytes(size, uint32(code)), c.PC, []byte{byte(code)})
			r := impl.Ram{Bytes: withRoom(start)}
			for _, play := range []func() (impl.Cpu, impl.Ram, []impl.Cyc){
				func() (impl.Cpu, impl.Ram, []impl.Cyc) { return impl.Step(c, r) },
				func() (impl.Cpu, impl.Ram, []impl.Cyc) { return impl.Serve(c, r, true) },
				func() (impl.Cpu, impl.Ram, []impl.Cyc) { return impl.Serve(c, r, false) },
			} {
				firstCpu, first, firstList := play()
				kept, keptList := bytes.Clone(first.Bytes), slices.Clone(firstList)
				secondCpu, second, secondList := play()
				if firstCpu != secondCpu || !bytes.Equal(second.Bytes, kept) || !slices.Equal(secondList, keptList) {
					t.Fatalf("%02X, %d bytes: the second answer is another one", code, size)
				}
				for i := range second.Bytes {
					second.Bytes[i] ^= 0xFF
				}
				for i := range secondList {
					secondList[i] = impl.Cyc{Addr: 1, Data: 1, Write: true}
				}
				_ = append(second.Bytes, 1, 2, 3)
				_ = append(secondList, impl.Cyc{})
				if !bytes.Equal(first.Bytes, kept) || !slices.Equal(firstList, keptList) {
					t.Fatalf("%02X, %d bytes: two answers share memory", code, size)
				}
				checkUntouched(t, fmt.Sprintf("%02X, %d bytes", code, size), r.Bytes, start)
			}
			impl.Jams(r, c.PC)
			checkUntouched(t, fmt.Sprintf("Jams of %02X, %d bytes", code, size), r.Bytes, start)
		}
	}
}
