package tests

import (
	"testing"

	"loop.example/g00693/impl"
)

func TestPackPBits(t *testing.T) {
	cases := []struct {
		f    impl.Flags
		brk  bool
		want byte
	}{
		{impl.Flags{}, false, 32},
		{impl.Flags{}, true, 48},
		{impl.Flags{C: true}, false, 33},
		{impl.Flags{Z: true}, false, 34},
		{impl.Flags{I: true}, false, 36},
		{impl.Flags{D: true}, false, 40},
		{impl.Flags{V: true}, false, 96},
		{impl.Flags{N: true}, false, 160},
		{impl.Flags{N: true, V: true, D: true, I: true, Z: true, C: true}, false, 239},
		{impl.Flags{N: true, V: true, D: true, I: true, Z: true, C: true}, true, 255},
	}
	for _, c := range cases {
		if got := impl.PackP(c.f, c.brk); got != c.want {
			t.Errorf("PackP(%v, %v) = %d, want %d", c.f, c.brk, got, c.want)
		}
	}
}

func TestUnpackPBits(t *testing.T) {
	cases := []struct {
		b    byte
		want impl.Flags
	}{
		{0, impl.Flags{}},
		{1, impl.Flags{C: true}},
		{2, impl.Flags{Z: true}},
		{4, impl.Flags{I: true}},
		{8, impl.Flags{D: true}},
		{16, impl.Flags{}},
		{32, impl.Flags{}},
		{64, impl.Flags{V: true}},
		{128, impl.Flags{N: true}},
		{207, impl.Flags{N: true, V: true, D: true, I: true, Z: true, C: true}},
		{255, impl.Flags{N: true, V: true, D: true, I: true, Z: true, C: true}},
	}
	for _, c := range cases {
		if got := impl.UnpackP(c.b); got != c.want {
			t.Errorf("UnpackP(%d) = %v, want %v", c.b, got, c.want)
		}
	}
}

func TestFlagsComeBackFromTheirByte(t *testing.T) {
	seen := map[byte]bool{}
	for _, f := range allFlags() {
		for _, brk := range []bool{false, true} {
			b := impl.PackP(f, brk)
			if seen[b] {
				t.Errorf("PackP(%v, %v) = %d, as of other flags", f, brk, b)
			}
			seen[b] = true
			if b&32 == 0 || (b&16 != 0) != brk {
				t.Errorf("PackP(%v, %v) = %d: bits 4 and 5", f, brk, b)
			}
			if got := impl.UnpackP(b); got != f {
				t.Errorf("UnpackP(PackP(%v, %v)) = %v", f, brk, got)
			}
		}
	}
}

func TestUnpackPLeavesOutTwoBits(t *testing.T) {
	for i := range 256 {
		b := byte(i)
		f := impl.UnpackP(b)
		for _, other := range []byte{b ^ 16, b ^ 32, b ^ 48} {
			if impl.UnpackP(other) != f {
				t.Errorf("UnpackP(%d) = %v, UnpackP(%d) = %v", b, f, other, impl.UnpackP(other))
			}
		}
		if got := impl.PackP(f, b&16 != 0); got != b|32 {
			t.Errorf("PackP(UnpackP(%d)) = %d", b, got)
		}
	}
}

func TestNZ(t *testing.T) {
	for i := range 256 {
		for _, f := range allFlags() {
			want := f
			want.N = i >= 128
			want.Z = i == 0
			if got := impl.NZ(byte(i), f); got != want {
				t.Fatalf("NZ(%d, %v) = %v, want %v", i, f, got, want)
			}
		}
	}
}

// reckoned is a function of two bytes and flags, as Adc and Sbc are.
type reckoned func(a byte, b byte, f impl.Flags) (byte, impl.Flags)

// checkReckoned holds got against wanted at all bytes, and at all flags with that D.
func checkReckoned(t *testing.T, name string, got reckoned, d bool, wanted reckoned) {
	t.Helper()
	for _, f := range allFlags() {
		if f.D != d {
			continue
		}
		for i := range 65536 {
			a, b := byte(i>>8), byte(i)
			out, flags := got(a, b, f)
			wantOut, wantFlags := wanted(a, b, f)
			if out != wantOut || flags != wantFlags {
				t.Fatalf("%s(%#x, %#x, %v) = %#x, %v, want %#x, %v", name, a, b, f, out, flags, wantOut, wantFlags)
			}
		}
	}
}

// plainSum tells V by numbers with signs: whether their sum is none of a byte's.
func plainSum(a byte, b byte, f impl.Flags) (byte, impl.Flags) {
	sum := int(a) + int(b) + numberOf(f.C)
	signed := int(int8(a)) + int(int8(b)) + numberOf(f.C)
	return byte(sum), impl.Flags{
		N: sum%256 >= 128,
		V: signed < -128 || signed > 127,
		D: f.D,
		I: f.I,
		Z: sum%256 == 0,
		C: sum >= 256,
	}
}

func plainDifference(a byte, b byte, f impl.Flags) (byte, impl.Flags) {
	taken := 1 - numberOf(f.C)
	rest := int(a) - int(b) - taken
	signed := int(int8(a)) - int(int8(b)) - taken
	return byte(rest), impl.Flags{
		N: byte(rest) >= 128,
		V: signed < -128 || signed > 127,
		D: f.D,
		I: f.I,
		Z: byte(rest) == 0,
		C: rest >= 0,
	}
}

// decimalSum goes digit by digit: ten or more of one half carry one to the next.
func decimalSum(a byte, b byte, f impl.Flags) (byte, impl.Flags) {
	low, carry := sumOfHalves(int(a)%16, int(b)%16, numberOf(f.C))
	high, out := sumOfHalves(int(a)/16, int(b)/16, carry)
	signed := (int(int8(a))>>4+int(int8(b))>>4+carry)*16 + low
	_, plain := plainSum(a, b, f)
	return byte(high*16 + low), impl.Flags{
		N: byte(signed) >= 128,
		V: signed < -128 || signed > 127,
		D: f.D,
		I: f.I,
		Z: plain.Z,
		C: out == 1,
	}
}

func sumOfHalves(a int, b int, carry int) (int, int) {
	sum := a + b + carry
	if sum >= 10 {
		return (sum + 6) % 16, 1
	}
	return sum, 0
}

func decimalDifference(a byte, b byte, f impl.Flags) (byte, impl.Flags) {
	low, taken := differenceOfHalves(int(a)%16, int(b)%16, 1-numberOf(f.C))
	high, _ := differenceOfHalves(int(a)/16, int(b)/16, taken)
	_, flags := plainDifference(a, b, f)
	return byte(high*16 + low), flags
}

func differenceOfHalves(a int, b int, taken int) (int, int) {
	rest := a - b - taken
	if rest < 0 {
		return (rest - 6 + 32) % 16, 1
	}
	return rest, 0
}

func TestAdcPlain(t *testing.T) {
	checkReckoned(t, "Adc", impl.Adc, false, plainSum)
}

func TestSbcPlain(t *testing.T) {
	checkReckoned(t, "Sbc", impl.Sbc, false, plainDifference)
}

func TestAdcDecimal(t *testing.T) {
	checkReckoned(t, "Adc", impl.Adc, true, decimalSum)
}

func TestSbcDecimal(t *testing.T) {
	checkReckoned(t, "Sbc", impl.Sbc, true, decimalDifference)
}

func TestSbcIsAdcOfTurnedBits(t *testing.T) {
	checkReckoned(t, "Sbc", impl.Sbc, false, func(a byte, b byte, f impl.Flags) (byte, impl.Flags) {
		return impl.Adc(a, 255-b, f)
	})
	// With D the flags are those of the plain sum still.
	flagsAlone := func(a byte, b byte, f impl.Flags) (byte, impl.Flags) {
		_, flags := impl.Sbc(a, b, f)
		return 0, flags
	}
	checkReckoned(t, "Sbc", flagsAlone, true, func(a byte, b byte, f impl.Flags) (byte, impl.Flags) {
		f.D = false
		_, flags := impl.Adc(a, 255-b, f)
		flags.D = true
		return 0, flags
	})
}

func decimalByte(n int) byte {
	return byte(n/10*16 + n%10)
}

func TestDecimalNumbersAddDecimally(t *testing.T) {
	for a := range 100 {
		for b := range 100 {
			for _, c := range []bool{false, true} {
				f := impl.Flags{D: true, C: c}
				sum := a + b + numberOf(c)
				out, flags := impl.Adc(decimalByte(a), decimalByte(b), f)
				if out != decimalByte(sum%100) || flags.C != (sum >= 100) {
					t.Errorf("%d + %d, C %v: %#x, C %v", a, b, c, out, flags.C)
				}
				rest := a - b - 1 + numberOf(c)
				out, flags = impl.Sbc(decimalByte(a), decimalByte(b), f)
				if out != decimalByte((rest+100)%100) || flags.C != (rest >= 0) {
					t.Errorf("%d - %d, C %v: %#x, C %v", a, b, c, out, flags.C)
				}
			}
		}
	}
}

// What is reckoned by hand, as the document says it, where halves are no
// decimal digits, or a carry makes one.
func TestAdcByHand(t *testing.T) {
	cases := []struct {
		a, b byte
		c    bool
		out  byte
		want impl.Flags
	}{
		{0x00, 0x00, false, 0x00, impl.Flags{D: true, Z: true}},
		{0x00, 0x00, true, 0x01, impl.Flags{D: true}},
		{0x09, 0x00, true, 0x10, impl.Flags{D: true}},
		{0x05, 0x05, false, 0x10, impl.Flags{D: true}},
		{0x0F, 0x0F, true, 0x15, impl.Flags{D: true}},
		{0x0A, 0x00, false, 0x10, impl.Flags{D: true}},
		{0x99, 0x99, true, 0x99, impl.Flags{V: true, D: true, C: true}},
		{0xFF, 0xFF, true, 0x55, impl.Flags{N: true, D: true, C: true}},
		{0xFF, 0x01, false, 0x66, impl.Flags{D: true, Z: true, C: true}},
		{0x99, 0x67, false, 0x66, impl.Flags{D: true, Z: true, C: true}},
		{0x80, 0x80, false, 0x60, impl.Flags{V: true, D: true, Z: true, C: true}},
		{0xA0, 0x00, false, 0x00, impl.Flags{N: true, D: true, C: true}},
		{0x9F, 0x00, false, 0x05, impl.Flags{N: true, D: true, C: true}},
		{0x49, 0x50, true, 0x00, impl.Flags{N: true, V: true, D: true, C: true}},
		{0x49, 0x50, false, 0x99, impl.Flags{N: true, V: true, D: true}},
	}
	for _, c := range cases {
		out, f := impl.Adc(c.a, c.b, impl.Flags{D: true, C: c.c})
		if out != c.out || f != c.want {
			t.Errorf("Adc(%#x, %#x, C %v) = %#x, %v, want %#x, %v", c.a, c.b, c.c, out, f, c.out, c.want)
		}
	}
}

func TestSbcByHand(t *testing.T) {
	cases := []struct {
		a, b byte
		c    bool
		out  byte
		want impl.Flags
	}{
		{0x00, 0x00, true, 0x00, impl.Flags{D: true, Z: true, C: true}},
		{0x00, 0x00, false, 0x99, impl.Flags{N: true, D: true}},
		{0x10, 0x01, true, 0x09, impl.Flags{D: true, C: true}},
		{0x10, 0x00, false, 0x09, impl.Flags{D: true, C: true}},
		{0x00, 0x0F, true, 0x9B, impl.Flags{N: true, D: true}},
		{0x00, 0xFF, false, 0xAA, impl.Flags{D: true, Z: true}},
		{0x00, 0xFF, true, 0xAB, impl.Flags{D: true}},
		{0xFF, 0x00, true, 0xFF, impl.Flags{N: true, D: true, C: true}},
		{0xAA, 0x0B, true, 0x99, impl.Flags{N: true, D: true, C: true}},
		{0x80, 0x01, true, 0x79, impl.Flags{V: true, D: true, C: true}},
	}
	for _, c := range cases {
		out, f := impl.Sbc(c.a, c.b, impl.Flags{D: true, C: c.c})
		if out != c.out || f != c.want {
			t.Errorf("Sbc(%#x, %#x, C %v) = %#x, %v, want %#x, %v", c.a, c.b, c.c, out, f, c.out, c.want)
		}
	}
}

func TestCmp(t *testing.T) {
	cases := []struct {
		a, b byte
		want impl.Flags
	}{
		{5, 6, impl.Flags{N: true}},
		{5, 5, impl.Flags{Z: true, C: true}},
		{6, 5, impl.Flags{C: true}},
		{0, 255, impl.Flags{}},
		{255, 0, impl.Flags{N: true, C: true}},
		{0, 0, impl.Flags{Z: true, C: true}},
		{255, 255, impl.Flags{Z: true, C: true}},
		{128, 127, impl.Flags{C: true}},
		{127, 128, impl.Flags{N: true}},
	}
	for _, c := range cases {
		if got := impl.Cmp(c.a, c.b, impl.Flags{}); got != c.want {
			t.Errorf("Cmp(%d, %d) = %v, want %v", c.a, c.b, got, c.want)
		}
	}
}

func TestCmpEverywhere(t *testing.T) {
	for _, d := range []bool{false, true} {
		cmp := func(a byte, b byte, f impl.Flags) (byte, impl.Flags) {
			return 0, impl.Cmp(a, b, f)
		}
		checkReckoned(t, "Cmp", cmp, d, func(a byte, b byte, f impl.Flags) (byte, impl.Flags) {
			f.C = int(a) >= int(b)
			f.Z = int(a) == int(b)
			f.N = (int(a)-int(b)+256)%256 >= 128
			return 0, f
		})
	}
}

// moved is a function that moves a byte, as Asl and its kin are.
type moved func(b byte, f impl.Flags) (byte, impl.Flags)

// checkMoved wants of a byte and its carry the answer and the bit that falls out.
func checkMoved(t *testing.T, name string, got moved, wanted func(b int, c int) (int, int)) {
	t.Helper()
	for i := range 256 {
		for _, f := range allFlags() {
			answer, out := wanted(i, numberOf(f.C))
			want := f
			want.N = answer >= 128
			want.Z = answer == 0
			want.C = out == 1
			b, flags := got(byte(i), f)
			if int(b) != answer || flags != want {
				t.Fatalf("%s(%d, %v) = %d, %v, want %d, %v", name, i, f, b, flags, answer, want)
			}
		}
	}
}

func TestBytesAreMoved(t *testing.T) {
	checkMoved(t, "Asl", impl.Asl, func(b int, c int) (int, int) { return b * 2 % 256, b / 128 })
	checkMoved(t, "Lsr", impl.Lsr, func(b int, c int) (int, int) { return b / 2, b % 2 })
	checkMoved(t, "Rol", impl.Rol, func(b int, c int) (int, int) { return b*2%256 + c, b / 128 })
	checkMoved(t, "Ror", impl.Ror, func(b int, c int) (int, int) { return b/2 + c*128, b % 2 })
}

func TestWhatIsMovedIsMovedBack(t *testing.T) {
	pairs := []struct {
		name        string
		there, back moved
	}{
		{"Asl Ror", impl.Asl, impl.Ror},
		{"Lsr Rol", impl.Lsr, impl.Rol},
		{"Rol Ror", impl.Rol, impl.Ror},
		{"Ror Rol", impl.Ror, impl.Rol},
	}
	for _, pair := range pairs {
		for i := range 256 {
			for _, f := range allFlags() {
				got, flags := pair.back(pair.there(byte(i), f))
				if int(got) != i {
					t.Errorf("%s of %d, %v: %d", pair.name, i, f, got)
				}
				fell := f.C && pair.name[0] == 'R'
				if flags.C != fell {
					t.Errorf("%s of %d, %v: C %v", pair.name, i, f, flags.C)
				}
			}
		}
	}
}

func TestNineTurnsAreNone(t *testing.T) {
	for _, turn := range []moved{impl.Rol, impl.Ror} {
		for i := range 256 {
			for _, c := range []bool{false, true} {
				b, f := byte(i), impl.Flags{C: c}
				for range 9 {
					b, f = turn(b, f)
				}
				if int(b) != i || f.C != c {
					t.Errorf("%d, C %v: %d, C %v", i, c, b, f.C)
				}
			}
		}
	}
}

func TestBitTest(t *testing.T) {
	cases := []struct {
		a, m byte
		want impl.Flags
	}{
		{255, 128, impl.Flags{N: true}},
		{255, 64, impl.Flags{V: true}},
		{255, 1, impl.Flags{}},
		{255, 0, impl.Flags{Z: true}},
		{0, 255, impl.Flags{N: true, V: true, Z: true}},
		{0, 63, impl.Flags{Z: true}},
		{63, 192, impl.Flags{N: true, V: true, Z: true}},
		{192, 63, impl.Flags{Z: true}},
		{64, 128, impl.Flags{N: true, Z: true}},
		{128, 64, impl.Flags{V: true, Z: true}},
		{85, 170, impl.Flags{N: true, Z: true}},
		{86, 170, impl.Flags{N: true}},
	}
	for _, c := range cases {
		if got := impl.BitTest(c.a, c.m, impl.Flags{}); got != c.want {
			t.Errorf("BitTest(%d, %d) = %v, want %v", c.a, c.m, got, c.want)
		}
	}
}

func TestBitTestEverywhere(t *testing.T) {
	for _, d := range []bool{false, true} {
		bit := func(a byte, b byte, f impl.Flags) (byte, impl.Flags) {
			return 0, impl.BitTest(a, b, f)
		}
		checkReckoned(t, "BitTest", bit, d, func(a byte, m byte, f impl.Flags) (byte, impl.Flags) {
			f.N = m >= 128
			f.V = m%128 >= 64
			f.Z = true
			for i := range 8 {
				if a>>i&1 == 1 && m>>i&1 == 1 {
					f.Z = false
				}
			}
			return 0, f
		})
	}
}
