package tests

import (
	"bytes"
	"fmt"
	"math"
	"slices"
	"testing"

	"loop.example/g00693/impl"
)

// spareCycle fills the room behind a list, so that a cycle put there shows.
var spareCycle = impl.Cyc{Addr: 0x5A5A, Data: 0xA5, Write: true}

func cyclesWithRoom(list []impl.Cyc) []impl.Cyc { return copyWithRoom(list, spareCycle) }

func checkCyclesUntouched(t *testing.T, what string, list []impl.Cyc, want []impl.Cyc) {
	t.Helper()
	checkWithRoom(t, what, list, want, spareCycle)
}

func scribbleCycles(list []impl.Cyc) { scribbleOver(list, impl.Cyc{Addr: 0xBAD, Data: 0xBA}) }

func scribbleBytes(b []byte) { scribbleOver(b, 0xBA) }

func wantedPack(list []impl.Cyc) []byte {
	var b []byte
	for _, c := range list {
		b = append(b, byte(c.Addr%256), byte(c.Addr/256), c.Data, byte(numberOf(c.Write)))
	}
	return b
}

func wantedUnpack(b []byte) ([]impl.Cyc, bool) {
	var list []impl.Cyc
	if len(b)%4 != 0 || len(b)/4 > 1200 {
		return nil, false
	}
	for i := 0; i < len(b); i += 4 {
		if b[i+3] != 0 && b[i+3] != 1 {
			return nil, false
		}
		list = append(list, impl.Cyc{Addr: uint16(b[i+1])*256 + uint16(b[i]), Data: b[i+2], Write: b[i+3] == 1})
	}
	return list, true
}

func checkUnpack(t *testing.T, what string, b []byte) {
	t.Helper()
	given := withRoom(b)
	got, ok := impl.UnpackTrace(given)
	if want, wantOk := wantedUnpack(b); ok != wantOk || !slices.Equal(got, want) {
		t.Errorf("%s: %d cycles, %v, want %d, %v, or other ones", what, len(got), ok, len(want), wantOk)
	}
	checkUntouched(t, what, given, b)
}

func TestPackTraceByHand(t *testing.T) {
	for _, row := range []struct {
		list []impl.Cyc
		want []byte
	}{
		{nil, nil},
		{[]impl.Cyc{}, nil},
		{[]impl.Cyc{{}}, []byte{0, 0, 0, 0}},
		{[]impl.Cyc{{Write: true}}, []byte{0, 0, 0, 1}},
		{[]impl.Cyc{{Addr: 0x1234, Data: 0x56}}, []byte{0x34, 0x12, 0x56, 0}},
		{[]impl.Cyc{{Addr: 0x00FF, Data: 1, Write: true}}, []byte{0xFF, 0x00, 1, 1}},
		{[]impl.Cyc{{Addr: 0xFF00, Data: 0xFF}, {Addr: 0xFFFF, Data: 2, Write: true}}, []byte{0x00, 0xFF, 0xFF, 0, 0xFF, 0xFF, 2, 1}},
		{[]impl.Cyc{{Addr: 1, Write: true}, {Addr: 256}, {Data: 1}}, []byte{1, 0, 0, 1, 0, 1, 0, 0, 0, 0, 1, 0}},
	} {
		if got := impl.PackTrace(row.list); !bytes.Equal(got, row.want) {
			t.Errorf("PackTrace(%v) = % X, want % X", row.list, got, row.want)
		}
		if got, ok := impl.UnpackTrace(row.want); !ok || !slices.Equal(got, row.list) {
			t.Errorf("UnpackTrace(% X) = %v, %v, want %v", row.want, got, ok, row.list)
		}
	}
}

func TestCapturesComeBackFromTheirBytes(t *testing.T) {
	check := func(what string, list []impl.Cyc) {
		packed := impl.PackTrace(list)
		if !bytes.Equal(packed, wantedPack(list)) {
			t.Errorf("%s: other bytes, %d of them", what, len(packed))
		}
		if got, ok := impl.UnpackTrace(packed); !ok || !slices.Equal(got, list) {
			t.Errorf("%s: %d cycles come back, %v", what, len(got), ok)
		}
	}
	for _, count := range captureSizes {
		for seed := range uint32(3) {
			check(fmt.Sprintf("%d cycles, mixed by %d", count, seed), mixedCycles(count, seed))
		}
	}
	for _, write := range []bool{false, true} {
		for _, addr := range someCycleAddrs() {
			var list []impl.Cyc
			for data := range 256 {
				list = append(list, impl.Cyc{Addr: addr, Data: byte(data), Write: write})
			}
			check(fmt.Sprintf("address %04X, %v", addr, write), list)
		}
	}
}

func TestBytesOfTooManyCycles(t *testing.T) {
	for _, count := range []int{1201, 1202, 2400, 5000} {
		if got := impl.PackTrace(mixedCycles(count, 2)); len(got) != 0 {
			t.Errorf("%d cycles are packed in %d bytes", count, len(got))
		}
	}
}

func TestUnpackTraceOfEachLength(t *testing.T) {
	for size := range 4900 {
		b := make([]byte, size)
		got, ok := impl.UnpackTrace(b)
		wantOk := size%4 == 0 && size <= 4800
		if ok != wantOk || ok && len(got) != size/4 || !ok && len(got) != 0 {
			t.Errorf("%d bytes: %d cycles, %v", size, len(got), ok)
		}
	}
	for _, size := range []int{4800, 4801, 4804, 9600, 19200, 65536} {
		checkUnpack(t, fmt.Sprintf("%d bytes", size), bytes.Repeat([]byte{1}, size))
	}
	if got, ok := impl.UnpackTrace(nil); !ok || len(got) != 0 {
		t.Errorf("no bytes: %v, %v", got, ok)
	}
}

// TestUnpackTraceOfEachFourthByte puts each byte at each place of the four of
// the first cycle, of one in the midst and of the last one.
func TestUnpackTraceOfEachFourthByte(t *testing.T) {
	for _, count := range []int{1, 2, 7, 1200} {
		packed := wantedPack(mixedCycles(count, 4))
		for _, cycle := range []int{0, count / 2, count - 1} {
			for place := 4 * cycle; place < 4*cycle+4; place++ {
				for b := range 256 {
					changed := bytes.Clone(packed)
					changed[place] = byte(b)
					got, ok := impl.UnpackTrace(changed)
					want, wantOk := wantedUnpack(changed)
					if ok != wantOk || !slices.Equal(got, want) || ok == (place%4 == 3 && b > 1) {
						t.Fatalf("%d cycles, byte %d is %d: %d cycles, %v", count, place, b, len(got), ok)
					}
				}
			}
		}
	}
}

// TestWhatIsUnpackedIsPackedAgain asks for all short lists of few bytes.
func TestWhatIsUnpackedIsPackedAgain(t *testing.T) {
	for _, s := range textsOf("\x00\x01\x02\xff", 8) {
		b := []byte(s)
		got, ok := impl.UnpackTrace(b)
		want, wantOk := wantedUnpack(b)
		if ok != wantOk || !slices.Equal(got, want) {
			t.Fatalf("UnpackTrace(% X) = %v, %v, want %v, %v", b, got, ok, want, wantOk)
		}
		if ok && !bytes.Equal(impl.PackTrace(got), b) {
			t.Fatalf("% X is packed again as % X", b, impl.PackTrace(got))
		}
	}
}

func wantedWindow(list []impl.Cyc, from int, to int) []impl.Cyc {
	var want []impl.Cyc
	for place, c := range list {
		if place >= from && place < to {
			want = append(want, c)
		}
	}
	return want
}

func TestWindowByHand(t *testing.T) {
	list := cyclesOf("0300=EA 0301=A9 0301=A9 0302=07 01FD=03!")
	for _, row := range []struct {
		from, to int
		want     string
	}{
		{0, 5, "0300=EA 0301=A9 0301=A9 0302=07 01FD=03!"},
		{0, 0, ""},
		{0, 1, "0300=EA"},
		{1, 3, "0301=A9 0301=A9"},
		{4, 5, "01FD=03!"},
		{4, 99, "01FD=03!"},
		{5, 99, ""},
		{6, 99, ""},
		{-5, 2, "0300=EA 0301=A9"},
		{-5, -1, ""},
		{-5, 0, ""},
		{3, 3, ""},
		{3, 2, ""},
		{5, 0, ""},
		{math.MinInt, math.MaxInt, "0300=EA 0301=A9 0301=A9 0302=07 01FD=03!"},
		{math.MaxInt, math.MinInt, ""},
		{math.MinInt, 1, "0300=EA"},
		{3, math.MaxInt, "0302=07 01FD=03!"},
		{math.MinInt, math.MinInt, ""},
		{math.MaxInt, math.MaxInt, ""},
	} {
		if got := cyclesText(impl.Window(list, row.from, row.to)); got != row.want {
			t.Errorf("from %d to %d: %s, want %s", row.from, row.to, got, row.want)
		}
	}
}

// TestWindowsOfEachLength looks at all windows, and at what answers share.
func TestWindowsOfEachLength(t *testing.T) {
	for _, count := range []int{0, 1, 2, 5, 1200, 1201, 3000} {
		list := mixedCycles(count, 9)
		ends := []int{math.MinInt, math.MinInt + 1, -count, -2, -1, 0, 1, 2, 3, count / 2, count - 1, count, count + 1, count + 99, math.MaxInt - 1, math.MaxInt}
		for _, from := range ends {
			for _, to := range ends {
				what := fmt.Sprintf("%d cycles, from %d to %d", count, from, to)
				given := cyclesWithRoom(list)
				got, other := impl.Window(given, from, to), impl.Window(given, from, to)
				want := wantedWindow(list, from, to)
				if !slices.Equal(got, want) {
					t.Errorf("%s: %d cycles, want %d, or other ones", what, len(got), len(want))
				}
				scribbleCycles(got)
				checkCyclesUntouched(t, what, given, list)
				if !slices.Equal(other, want) {
					t.Errorf("%s: two answers share memory", what)
				}
				scribbleCycles(given)
				if !slices.Equal(other, want) {
					t.Errorf("%s: the answer changed with the argument", what)
				}
			}
		}
	}
}

func TestWindowsJoinedAreTheWhole(t *testing.T) {
	list := mixedCycles(60, 12)
	for from := -3; from <= 63; from++ {
		for to := from; to <= 63; to++ {
			joined := slices.Concat(impl.Window(list, -9, from), impl.Window(list, from, to), impl.Window(list, to, 99))
			if !slices.Equal(joined, list) {
				t.Fatalf("cut at %d and %d: %d cycles", from, to, len(joined))
			}
		}
	}
}

// TestCapturesAnswerNewMemory writes into answers, and looks at the arguments
// and at other answers.
func TestCapturesAnswerNewMemory(t *testing.T) {
	for _, count := range []int{0, 1, 2, 100, 1199, 1200, 1201, 1300} {
		what := fmt.Sprintf("%d cycles", count)
		list := mixedCycles(count, 8)
		given := cyclesWithRoom(list)
		text := impl.TraceText(given)
		packed, again := impl.PackTrace(given), impl.PackTrace(given)
		checkCyclesUntouched(t, what, given, list)
		kept := bytes.Clone(packed)
		scribbleCycles(given)
		if count <= 1200 && (text != wantedTraceText(list) || !bytes.Equal(packed, wantedPack(list))) {
			t.Errorf("%s: an answer changed with its argument", what)
		}
		scribbleBytes(packed)
		if !bytes.Equal(again, kept) {
			t.Errorf("%s: PackTrace's answers share memory", what)
		}

		read, _ := impl.ReadTrace(text)
		other, _ := impl.ReadTrace(text)
		keptList := slices.Clone(other)
		scribbleCycles(read)
		if !slices.Equal(other, keptList) {
			t.Errorf("%s: ReadTrace's answers share memory", what)
		}

		given4 := withRoom(kept)
		first, _ := impl.UnpackTrace(given4)
		second, _ := impl.UnpackTrace(given4)
		keptList = slices.Clone(second)
		scribbleCycles(first)
		checkUntouched(t, what, given4, kept)
		scribbleBytes(given4)
		if !slices.Equal(second, keptList) {
			t.Errorf("%s: UnpackTrace's answers share memory", what)
		}
	}
}

// TestUnpackTraceWritesIntoNoArgument takes what is refused too.
func TestUnpackTraceWritesIntoNoArgument(t *testing.T) {
	for _, size := range []int{0, 1, 3, 4, 5, 100, 4799, 4800, 4801, 4804, 5000} {
		checkUnpack(t, fmt.Sprintf("%d noughts", size), make([]byte, size))
		checkUnpack(t, fmt.Sprintf("%d mixed bytes", size), mixedBytes(size, 3))
	}
}

// Each answer is that of its arguments alone, whatever was asked ahead.
func TestCapturesKeepNothing(t *testing.T) {
	list := mixedCycles(50, 21)
	text, packed := wantedTraceText(list), wantedPack(list)
	for range 3 {
		if got, bad := impl.ReadTrace(text); bad != 0 || !slices.Equal(got, list) {
			t.Errorf("ReadTrace: %d cycles, %d", len(got), bad)
		}
		if _, bad := impl.ReadTrace(text + "x"); bad != 51 {
			t.Errorf("ReadTrace of a bad line: %d", bad)
		}
		if got, ok := impl.UnpackTrace(packed); !ok || !slices.Equal(got, list) {
			t.Errorf("UnpackTrace: %d cycles, %v", len(got), ok)
		}
		if got, ok := impl.UnpackTrace(packed[:199]); ok || len(got) != 0 {
			t.Errorf("UnpackTrace of a part: %d cycles, %v", len(got), ok)
		}
		if impl.TraceText(list) != text || !bytes.Equal(impl.PackTrace(list), packed) {
			t.Error("other texts or bytes")
		}
	}
}
