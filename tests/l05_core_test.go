package tests

import (
	"bytes"
	"fmt"
	"math"
	"regexp"
	"slices"
	"strings"
	"testing"

	"loop.example/g00693/impl"
)

var ramSizes = []int{256, 512, 1024, 2048, 4096}

// spareMark fills the room behind a list, so that a byte put there shows.
const spareMark = 0xA5

// wrongSizes tells sizes that no memory has, none of them too great to be made.
func wrongSizes() []int {
	all := []int{0, 1, 100, 300, 768, 3072, 65535, 65536 + 256}
	for _, size := range ramSizes {
		all = append(all, size-1, size+1)
	}
	for power := 1; power <= 65536; power *= 2 {
		if !slices.Contains(ramSizes, power) {
			all = append(all, power)
		}
	}
	return all
}

func withRoom(b []byte) []byte { return copyWithRoom(b, spareMark) }

func checkUntouched(t *testing.T, what string, b []byte, want []byte) {
	t.Helper()
	checkWithRoom(t, what, b, want, spareMark)
}

// mixedRam tells a memory of that size, with room to spare and no two pages alike.
func mixedRam(size int) impl.Ram {
	return impl.Ram{Bytes: withRoom(mixedBytes(size, uint32(size)))}
}

// wantedFill puts byte after byte, each at its own address.
func wantedFill(b []byte, addr uint16, list []byte) []byte {
	want := slices.Clone(b)
	for i, one := range list {
		want[(int(addr)+i)%65536%len(want)] = one
	}
	return want
}

func someAddresses(size int) []uint16 {
	return []uint16{
		0, 1, 0x7F, 0xFF, 0x100, 0x1234, 0x8000, 0xFF34, 0xFFFE, 0xFFFF,
		uint16(size - 2), uint16(size - 1), uint16(size), uint16(size + 1), uint16(65536 - size), uint16(65535 - size),
	}
}

func TestRamOk(t *testing.T) {
	for _, size := range ramSizes {
		if !impl.RamOk(impl.Ram{Bytes: make([]byte, size)}) {
			t.Errorf("%d bytes aren't right", size)
		}
		if !impl.RamOk(impl.Ram{Bytes: make([]byte, size, size+1)}) || !impl.RamOk(impl.Ram{Bytes: make([]byte, 5000)[:size]}) {
			t.Errorf("%d bytes with room to spare aren't right", size)
		}
		if impl.RamOk(impl.Ram{Bytes: make([]byte, size-1, size)}) || impl.RamOk(impl.Ram{Bytes: make([]byte, 0, size)}) {
			t.Errorf("fewer bytes with room for %d are right", size)
		}
		if !impl.RamOk(impl.Ram{Bytes: bytes.Repeat([]byte{0xFF}, size)}) {
			t.Errorf("%d bytes that aren't 0 aren't right", size)
		}
	}
	for _, size := range wrongSizes() {
		if impl.RamOk(impl.Ram{Bytes: make([]byte, size)}) {
			t.Errorf("%d bytes are right", size)
		}
	}
	if impl.RamOk(impl.Ram{}) || impl.RamOk(impl.Ram{Bytes: nil}) {
		t.Error("no bytes are right")
	}
}

func TestRamOkOfEachSize(t *testing.T) {
	room := make([]byte, 9000)
	for size := range len(room) {
		if got, want := impl.RamOk(impl.Ram{Bytes: room[:size]}), slices.Contains(ramSizes, size); got != want {
			t.Errorf("RamOk of %d bytes = %v", size, got)
		}
	}
}

func TestNewRam(t *testing.T) {
	for _, size := range ramSizes {
		r := impl.NewRam(size)
		if !impl.RamOk(r) || !bytes.Equal(r.Bytes, make([]byte, size)) {
			t.Errorf("NewRam(%d) has %d bytes, or one that isn't 0", size, len(r.Bytes))
		}
		for i := range r.Bytes {
			r.Bytes[i] = 0xFF
		}
		if again := impl.NewRam(size); !bytes.Equal(again.Bytes, make([]byte, size)) {
			t.Errorf("NewRam(%d) shares memory with the one told before", size)
		}
	}
}

func TestNewRamOfNoSize(t *testing.T) {
	sizes := append(wrongSizes(), -1, -255, -256, -257, -4096, math.MinInt, math.MinInt+256,
		8192, 1<<20, 1<<32, 1<<32+256, 1<<48, 1<<62, math.MaxInt, math.MaxInt-255)
	for size := -300; size < 9000; size++ {
		if !slices.Contains(ramSizes, size) {
			sizes = append(sizes, size)
		}
	}
	for _, size := range sizes {
		if r := impl.NewRam(size); len(r.Bytes) != 0 {
			t.Errorf("NewRam(%d) has %d bytes", size, len(r.Bytes))
		}
	}
}

func TestPeekAtEachAddress(t *testing.T) {
	for _, size := range ramSizes {
		r := mixedRam(size)
		for addr := range 65536 {
			if got, want := impl.Peek(r, uint16(addr)), r.Bytes[addr%size]; got != want {
				t.Fatalf("Peek of %d bytes at %04X = %02X, want %02X", size, addr, got, want)
			}
		}
	}
}

func TestPeekWhereAddressesGoRound(t *testing.T) {
	for _, size := range ramSizes {
		b := make([]byte, size)
		b[0], b[1], b[size-1] = 11, 12, 13
		r := impl.Ram{Bytes: b}
		for _, c := range []struct {
			addr int
			want byte
		}{
			{0, 11}, {1, 12}, {2, 0}, {size - 2, 0}, {size - 1, 13}, {size, 11}, {size + 1, 12},
			{65536 - size, 11}, {65535 - size, 13}, {65534, 0}, {65535, 13},
		} {
			if got := impl.Peek(r, uint16(c.addr)); got != c.want {
				t.Errorf("Peek of %d bytes at %d = %d, want %d", size, c.addr, got, c.want)
			}
		}
	}
}

func TestWhatIsPokedIsThere(t *testing.T) {
	for _, size := range ramSizes {
		r := mixedRam(size)
		before := slices.Clone(r.Bytes)
		for _, addr := range someAddresses(size) {
			for _, b := range []byte{0, 1, 0x7F, 0x80, 0xFF, ^impl.Peek(r, addr), impl.Peek(r, addr)} {
				got := impl.Poke(r, addr, b)
				want := slices.Clone(before)
				want[int(addr)%size] = b
				if !bytes.Equal(got.Bytes, want) {
					t.Errorf("Poke of %02X into %d bytes at %04X is wrong", b, size, addr)
				}
				if impl.Peek(got, addr) != b {
					t.Errorf("at %04X of %d bytes stands %02X, want %02X", addr, size, impl.Peek(got, addr), b)
				}
			}
		}
		checkUntouched(t, "Poke", r.Bytes, before)
	}
}

func TestPokeIsSeenWhereAddressesGoRound(t *testing.T) {
	for _, size := range ramSizes {
		r := impl.NewRam(size)
		for _, addr := range someAddresses(size) {
			got := impl.Poke(r, addr, 0x5A)
			for seen := range 65536 {
				want := byte(0)
				if seen%size == int(addr)%size {
					want = 0x5A
				}
				if b := impl.Peek(got, uint16(seen)); b != want {
					t.Fatalf("Poke of %d bytes at %04X: at %04X stands %02X, want %02X", size, addr, seen, b, want)
				}
			}
		}
	}
}

func TestPokeAtEachAddress(t *testing.T) {
	r := mixedRam(256)
	for addr := range 65536 {
		want := slices.Clone(r.Bytes)
		want[addr%256] = byte(addr >> 8)
		if got := impl.Poke(r, uint16(addr), byte(addr>>8)); !bytes.Equal(got.Bytes, want) {
			t.Fatalf("Poke at %04X is wrong", addr)
		}
	}
}

func TestMemoriesThatAreNotRight(t *testing.T) {
	for _, size := range wrongSizes() {
		before := bytes.Repeat([]byte{0xC3}, size)
		r := impl.Ram{Bytes: withRoom(before)}
		for _, addr := range []uint16{0, 1, 0xFF, 0x100, 0x1234, 0xFFFF, uint16(size), uint16(size - 1)} {
			if b := impl.Peek(r, addr); b != 0 {
				t.Errorf("Peek of %d bytes at %04X = %02X", size, addr, b)
			}
			if got := impl.Poke(r, addr, 7); len(got.Bytes) != 0 {
				t.Errorf("Poke of %d bytes at %04X has %d bytes", size, addr, len(got.Bytes))
			}
			for _, list := range [][]byte{nil, {}, {7}, {7, 8, 9}, make([]byte, impl.MaxProg), make([]byte, impl.MaxProg+1)} {
				if got := impl.Fill(r, addr, list); len(got.Bytes) != 0 {
					t.Errorf("Fill of %d bytes at %04X has %d bytes", size, addr, len(got.Bytes))
				}
			}
		}
		checkUntouched(t, fmt.Sprint(size, " bytes"), r.Bytes, before)
	}
	if impl.Peek(impl.Ram{}, 0) != 0 || len(impl.Poke(impl.Ram{}, 0, 1).Bytes) != 0 || len(impl.Fill(impl.Ram{}, 0, []byte{1}).Bytes) != 0 {
		t.Error("the zero Ram")
	}
}

func TestFillByHand(t *testing.T) {
	r := impl.NewRam(256)
	got := impl.Fill(r, 0xFE, []byte{1, 2, 3, 4})
	if got.Bytes[0xFE] != 1 || got.Bytes[0xFF] != 2 || got.Bytes[0] != 3 || got.Bytes[1] != 4 || got.Bytes[2] != 0 || got.Bytes[0xFD] != 0 {
		t.Errorf("round the end of the memory: % X", got.Bytes)
	}
	got = impl.Fill(impl.NewRam(4096), 0xFFFF, []byte{1, 2, 3})
	if got.Bytes[4095] != 1 || got.Bytes[0] != 2 || got.Bytes[1] != 3 || got.Bytes[2] != 0 || got.Bytes[4094] != 0 {
		t.Error("round the last address")
	}
	long := make([]byte, 256*3+2)
	for i := range long {
		long[i] = byte(i/256 + 1)
	}
	got = impl.Fill(r, 0x10, long)
	for place, b := range got.Bytes {
		want := byte(3)
		if place == 0x10 || place == 0x11 {
			want = 4
		}
		if b != want {
			t.Errorf("longer than the memory: at %02X stands %d, want %d", place, b, want)
		}
	}
}

func TestFillOfEachLength(t *testing.T) {
	for _, size := range ramSizes {
		r := mixedRam(size)
		before := slices.Clone(r.Bytes)
		for _, count := range []int{0, 1, 2, 3, 255, 256, 257, 511, 512, 513, 767, 768, 1000, impl.MaxProg - 1, impl.MaxProg} {
			content := mixedBytes(count, 7)
			list := withRoom(content)
			for _, addr := range append(someAddresses(size), uint16(size-count), uint16(65536-count), uint16(65537-count)) {
				got := impl.Fill(r, addr, list)
				if want := wantedFill(before, addr, content); !bytes.Equal(got.Bytes, want) {
					t.Errorf("Fill of %d bytes from %04X on with %d is wrong", size, addr, count)
				}
				checkUntouched(t, "Fill's list", list, content)
			}
		}
		checkUntouched(t, "Fill", r.Bytes, before)
	}
}

func TestFillOfNothing(t *testing.T) {
	for _, size := range ramSizes {
		r := mixedRam(size)
		for _, list := range [][]byte{nil, {}} {
			for _, addr := range someAddresses(size) {
				if got := impl.Fill(r, addr, list); !bytes.Equal(got.Bytes, r.Bytes) {
					t.Errorf("Fill of %d bytes with nothing at %04X changes them", size, addr)
				}
			}
		}
	}
}

func TestFillOfTooMany(t *testing.T) {
	for _, size := range ramSizes {
		r := mixedRam(size)
		for _, c := range []struct{ count, want int }{
			{impl.MaxProg, size}, {impl.MaxProg + 1, 0}, {impl.MaxProg + 2, 0}, {4096, 0}, {65536, 0}, {100000, 0},
		} {
			for _, addr := range []uint16{0, 5, 0xFFFF} {
				if got := impl.Fill(r, addr, make([]byte, c.count)); len(got.Bytes) != c.want {
					t.Errorf("Fill of %d bytes with %d has %d bytes, want %d", size, c.count, len(got.Bytes), c.want)
				}
			}
		}
	}
}

// TestFillFromItself takes the list from the memory that is filled.
func TestFillFromItself(t *testing.T) {
	r := mixedRam(512)
	before := slices.Clone(r.Bytes)
	for _, addr := range []uint16{0, 1, 255, 300, 511, 0xFFFF} {
		got := impl.Fill(r, addr, r.Bytes[:400])
		if want := wantedFill(before, addr, before[:400]); !bytes.Equal(got.Bytes, want) {
			t.Errorf("Fill from itself at %04X is wrong", addr)
		}
	}
	checkUntouched(t, "Fill from itself", r.Bytes, before)
}

// TestAnswersAreNewMemory writes into answers, all their room too, and looks at the arguments.
func TestAnswersAreNewMemory(t *testing.T) {
	for _, size := range ramSizes {
		r := mixedRam(size)
		before := slices.Clone(r.Bytes)
		content := mixedBytes(size%1023+1, 3)
		list := withRoom(content)
		for _, answer := range []impl.Ram{
			impl.Poke(r, 3, 4), impl.Poke(r, 0, r.Bytes[0]), impl.Fill(r, 0, nil), impl.Fill(r, 1, list), impl.Fill(r, 0, r.Bytes[:256]),
		} {
			room := answer.Bytes[:cap(answer.Bytes)]
			for i := range room {
				room[i] = 0x11
			}
		}
		checkUntouched(t, "the memory", r.Bytes, before)
		checkUntouched(t, "the list", list, content)
		first := impl.Poke(r, 3, 4)
		told := slices.Clone(first.Bytes)
		r.Bytes[7]++
		if !bytes.Equal(first.Bytes, told) {
			t.Error("an answer changes with its argument")
		}
	}
}

var cpuForm = regexp.MustCompile(`^A=([0-9A-F]{2}) X=([0-9A-F]{2}) Y=([0-9A-F]{2}) S=([0-9A-F]{2}) PC=([0-9A-F]{4}) (N|-)(V|-)(D|-)(I|-)(Z|-)(C|-)$`)

// wantedCpu reads a processor by a pattern.
func wantedCpu(s string) (impl.Cpu, bool) {
	found := cpuForm.FindStringSubmatch(s)
	if found == nil {
		return impl.Cpu{}, false
	}
	var numbers [5]int
	for i := range numbers {
		fmt.Sscanf(found[i+1], "%X", &numbers[i])
	}
	var set [6]bool
	for i := range set {
		set[i] = found[i+6] != "-"
	}
	return impl.Cpu{
		A: byte(numbers[0]), X: byte(numbers[1]), Y: byte(numbers[2]), S: byte(numbers[3]), PC: uint16(numbers[4]),
		F: impl.Flags{N: set[0], V: set[1], D: set[2], I: set[3], Z: set[4], C: set[5]},
	}, true
}

func wantedCpuText(c impl.Cpu) string {
	flags := []byte("------")
	for i, set := range []bool{c.F.N, c.F.V, c.F.D, c.F.I, c.F.Z, c.F.C} {
		if set {
			flags[i] = "NVDIZC"[i]
		}
	}
	return fmt.Sprintf("A=%02X X=%02X Y=%02X S=%02X PC=%04X %s", c.A, c.X, c.Y, c.S, c.PC, flags)
}

func checkReadCpu(t *testing.T, s string) {
	t.Helper()
	want, wantOk := wantedCpu(s)
	if got, ok := impl.ReadCpu(s); ok != wantOk || got != want {
		t.Errorf("ReadCpu(%.60q) = %v, %v, want %v, %v", s, got, ok, want, wantOk)
	}
}

func TestCpuTextByHand(t *testing.T) {
	for _, c := range []struct {
		cpu  impl.Cpu
		want string
	}{
		{impl.Cpu{}, "A=00 X=00 Y=00 S=00 PC=0000 ------"},
		{impl.Cpu{A: 255}, "A=FF X=00 Y=00 S=00 PC=0000 ------"},
		{impl.Cpu{X: 255}, "A=00 X=FF Y=00 S=00 PC=0000 ------"},
		{impl.Cpu{Y: 255}, "A=00 X=00 Y=FF S=00 PC=0000 ------"},
		{impl.Cpu{S: 255}, "A=00 X=00 Y=00 S=FF PC=0000 ------"},
		{impl.Cpu{PC: 65535}, "A=00 X=00 Y=00 S=00 PC=FFFF ------"},
		{impl.Cpu{F: impl.Flags{N: true}}, "A=00 X=00 Y=00 S=00 PC=0000 N-----"},
		{impl.Cpu{F: impl.Flags{V: true}}, "A=00 X=00 Y=00 S=00 PC=0000 -V----"},
		{impl.Cpu{F: impl.Flags{D: true}}, "A=00 X=00 Y=00 S=00 PC=0000 --D---"},
		{impl.Cpu{F: impl.Flags{I: true}}, "A=00 X=00 Y=00 S=00 PC=0000 ---I--"},
		{impl.Cpu{F: impl.Flags{Z: true}}, "A=00 X=00 Y=00 S=00 PC=0000 ----Z-"},
		{impl.Cpu{F: impl.Flags{C: true}}, "A=00 X=00 Y=00 S=00 PC=0000 -----C"},
		{
			impl.Cpu{A: 255, X: 255, Y: 255, S: 255, PC: 65535, F: impl.Flags{N: true, V: true, D: true, I: true, Z: true, C: true}},
			"A=FF X=FF Y=FF S=FF PC=FFFF NVDIZC",
		},
		{
			impl.Cpu{A: 0x12, X: 0x34, Y: 0x56, S: 0x78, PC: 0x9ABC, F: impl.Flags{V: true, I: true, C: true}},
			"A=12 X=34 Y=56 S=78 PC=9ABC -V-I-C",
		},
		{impl.Cpu{A: 10, X: 0xA0, Y: 1, S: 0x0F, PC: 0x000A}, "A=0A X=A0 Y=01 S=0F PC=000A ------"},
	} {
		if got := impl.CpuText(c.cpu); got != c.want {
			t.Errorf("CpuText(%v) = %q, want %q", c.cpu, got, c.want)
		}
		if got, ok := impl.ReadCpu(c.want); !ok || got != c.cpu {
			t.Errorf("ReadCpu(%q) = %v, %v, want %v", c.want, got, ok, c.cpu)
		}
	}
}

// someCpus tells processors with each value of each register, and with all flags.
func someCpus() []impl.Cpu {
	var all []impl.Cpu
	for n := range 256 {
		b := byte(n)
		all = append(all, impl.Cpu{A: b}, impl.Cpu{X: b}, impl.Cpu{Y: b}, impl.Cpu{S: b},
			impl.Cpu{PC: uint16(n)}, impl.Cpu{PC: uint16(n) * 256}, impl.Cpu{PC: uint16(n) * 257},
			impl.Cpu{A: b, X: b + 1, Y: b * 3, S: ^b, PC: uint16(n) * 0x1235, F: impl.UnpackP(b)})
	}
	for _, f := range allFlags() {
		all = append(all, impl.Cpu{F: f}, impl.Cpu{A: 0xDE, X: 0xC0, Y: 0xAD, S: 0xFD, PC: 0xC0DE, F: f})
	}
	return all
}

func TestProcessorsComeBackFromTheirTexts(t *testing.T) {
	for _, c := range someCpus() {
		text := impl.CpuText(c)
		if want := wantedCpuText(c); text != want {
			t.Errorf("CpuText(%v) = %q, want %q", c, text, want)
		}
		if got, ok := impl.ReadCpu(text); !ok || got != c {
			t.Errorf("ReadCpu(%q) = %v, %v, want %v", text, got, ok, c)
		}
	}
}

func TestTextsOfNoProcessor(t *testing.T) {
	const right = "A=01 X=FF Y=00 S=FD PC=C000 N--I--"
	for _, s := range []string{
		"", " ", "A", "=", "A=", "A= X= Y= S= PC= ", "     ", "======", "------", "NVDIZC", "N--I--",
		"A=00", "A=00 X=00 Y=00 S=00 PC=0000", "A=00 X=00 Y=00 S=00 PC=0000 ", "A=00 X=00 Y=00 S=00 ------",
		"A=0a X=FF Y=00 S=FD PC=C000 N--I--", "A=01 X=ff Y=00 S=FD PC=C000 N--I--", "A=01 X=FF Y=00 S=fd PC=C000 N--I--",
		"A=01 X=FF Y=00 S=FD PC=c000 N--I--", "a=01 X=FF Y=00 S=FD PC=C000 N--I--", "A=01 x=FF Y=00 S=FD PC=C000 N--I--",
		"A=01 X=FF Y=00 S=FD pc=C000 N--I--", "A=01 X=FF Y=00 S=FD Pc=C000 N--I--", "A=01 X=FF Y=00 S=FD PC=C000 n--i--",
		"A=1 X=FF Y=00 S=FD PC=C000 N--I--", "A=001 X=FF Y=00 S=FD PC=C000 N--I--", "A=101 X=FF Y=00 S=FD PC=C000 N--I--",
		"A=01 X=F Y=00 S=FD PC=C000 N--I--", "A=01 X=FFF Y=00 S=FD PC=C000 N--I--", "A=01 X=FF Y=0 S=FD PC=C000 N--I--",
		"A=01 X=FF Y=000 S=FD PC=C000 N--I--", "A=01 X=FF Y=00 S=D PC=C000 N--I--", "A=01 X=FF Y=00 S=0FD PC=C000 N--I--",
		"A=01 X=FF Y=00 S=FD PC=C00 N--I--", "A=01 X=FF Y=00 S=FD PC=0C000 N--I--", "A=01 X=FF Y=00 S=FD PC=C0000 N--I--",
		"A= X=FF Y=00 S=FD PC=C000 N--I--", "A=01 X=FF Y=00 S=FD PC= N--I--", "A=-1 X=FF Y=00 S=FD PC=C000 N--I--", "A=?? X=FF Y=00 S=FD PC=C000 N--I--",
		"A=$1 X=FF Y=00 S=FD PC=C000 N--I--", "A=0G X=FF Y=00 S=FD PC=C000 N--I--", "A=G0 X=FF Y=00 S=FD PC=C000 N--I--", "A=01 X=FF Y=00 S=FD PC=C00G N--I--",
		" " + right, right + " ", right + "\n", "\n" + right, "\t" + right, right + "\t", right + "\x00", "x" + right, right + "x", right + "-", right + "C",
		right + right, right + " " + right, right + "\n" + right,
		"A=01  X=FF Y=00 S=FD PC=C000 N--I--", "A=01 X=FF  Y=00 S=FD PC=C000 N--I--", "A=01 X=FF Y=00  S=FD PC=C000 N--I--",
		"A=01 X=FF Y=00 S=FD  PC=C000 N--I--", "A=01 X=FF Y=00 S=FD PC=C000  N--I--", "A=01\tX=FF Y=00 S=FD PC=C000 N--I--",
		"A=01X=FF Y=00 S=FD PC=C000 N--I--", "A=01 X=FFY=00 S=FD PC=C000 N--I--", "A=01 X=FF Y=00S=FD PC=C000 N--I--",
		"A=01 X=FF Y=00 S=FDPC=C000 N--I--", "A=01 X=FF Y=00 S=FD PC=C000N--I--", "A=01X=FFY=00S=FDPC=C000N--I--",
		"A =01 X=FF Y=00 S=FD PC=C000 N--I--", "A= 01 X=FF Y=00 S=FD PC=C000 N--I--", "A=01 X=FF Y=00 S=FD P C=C000 N--I--", "A=01 X=FF Y=00 S=FD PC=C000 N- -I--",
		"A01 X=FF Y=00 S=FD PC=C000 N--I--", "A==01 X=FF Y=00 S=FD PC=C000 N--I--", "A:01 X=FF Y=00 S=FD PC=C000 N--I--", "01 FF 00 FD C000 N--I--",
		"B=01 X=FF Y=00 S=FD PC=C000 N--I--", "X=01 A=FF Y=00 S=FD PC=C000 N--I--", "A=01 Y=FF X=00 S=FD PC=C000 N--I--", "A=01 X=FF Y=00 SP=FD PC=C000 N--I--",
		"A=01 X=FF Y=00 PC=C000 S=FD N--I--", "A=01 X=FF Y=00 S=FD P=C000 N--I--", "A=01 X=FF Y=00 S=FD PC=C000 P=N--I--", "=01 X=FF Y=00 S=FD PC=C000 N--I--",
		"A=01 X=FF Y=00 S=FD PC=C000 -N-I--", "A=01 X=FF Y=00 S=FD PC=C000 I--N--", "A=01 X=FF Y=00 S=FD PC=C000 VN----", "A=01 X=FF Y=00 S=FD PC=C000 ----C-",
		"A=01 X=FF Y=00 S=FD PC=C000 N--I-", "A=01 X=FF Y=00 S=FD PC=C000 N--I---", "A=01 X=FF Y=00 S=FD PC=C000 NI", "A=01 X=FF Y=00 S=FD PC=C000 NNNNNN",
		"A=01 X=FF Y=00 S=FD PC=C000 N--I-?", "A=01 X=FF Y=00 S=FD PC=C000 N--I-B", "A=01 X=FF Y=00 S=FD PC=C000 N--I-0", "A=01 X=FF Y=00 S=FD PC=C000 N__I__",
		"A=01 X=FF Y=00 S=FD PC=C000 NV-BDIZC", "A=01 X=FF Y=00 S=FD PC=C000 N--I\xff\xff", "A=0\xff X=FF Y=00 S=FD PC=C000 N--I--", "A=ä X=FF Y=00 S=FD PC=C000 N--I--",
		strings.Repeat("=", 100000), strings.Repeat(" ", 100000), strings.Repeat("A=01 ", 20000), right + strings.Repeat(" ", 100000), "A=" + strings.Repeat("0", 100000),
	} {
		if got, ok := impl.ReadCpu(s); ok || got != (impl.Cpu{}) {
			t.Errorf("ReadCpu(%.60q) = %v, %v", s, got, ok)
		}
	}
}

// TestCpuTextsThatAreAlmostRight changes, adds and leaves out one byte, and tells apart what is still a text.
func TestCpuTextsThatAreAlmostRight(t *testing.T) {
	for _, s := range []string{
		"A=01 X=FF Y=00 S=FD PC=C000 N--I--",
		"A=00 X=00 Y=00 S=00 PC=0000 ------",
		"A=AF X=9C Y=1D S=E2 PC=FFFF NVDIZC",
	} {
		for i := range len(s) + 1 {
			for b := range 256 {
				sign := string([]byte{byte(b)})
				checkReadCpu(t, s[:i]+sign+s[i:])
				if i < len(s) {
					checkReadCpu(t, s[:i]+sign+s[i+1:])
				}
			}
			checkReadCpu(t, s[:i])
			checkReadCpu(t, s[i:])
			if i < len(s) {
				checkReadCpu(t, s[:i]+s[i+1:])
			}
			for j := i + 1; j < len(s); j++ {
				swapped := []byte(s)
				swapped[i], swapped[j] = swapped[j], swapped[i]
				checkReadCpu(t, string(swapped))
			}
		}
	}
}

// TestFlagsInEachPlace tries each letter, and two of them, in each flag's place.
func TestFlagsInEachPlace(t *testing.T) {
	const begin = "A=01 X=FF Y=00 S=FD PC=C000 "
	for _, flags := range textsOf("-NVDIZC", 4) {
		checkReadCpu(t, begin+flags)
		checkReadCpu(t, begin+flags+"--")
		checkReadCpu(t, begin+"--"+flags)
		checkReadCpu(t, begin+"N"+flags+"C")
	}
}
