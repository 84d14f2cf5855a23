/-
  Plain facts on bytes and flags, without any Go program: what sums, differences and moved bits are.
-/
import Derived.Laws.BitsAllLaws
import Derived.Laws.BitsLemmas
import Derived.Laws.RangeAny
namespace Go.Proofs.Ytblchdmemhhcbaa
set_option linter.unusedVariables false
set_option linter.unusedSimpArgs false

def bit7 (b : Int) : Bool := decide (128 ≤ b)
def isZ (b : Int) : Bool := b == 0
def hasB (b m : Int) : Bool := bits .and .u8 b m != 0
def bI (c : Bool) (x : Int) : Int := if c then x else 0

theorem bI_true (x : Int) : bI true x = x := rfl
theorem bI_false (x : Int) : bI false x = 0 := rfl

theorem fin_of {p : Int → Prop} (h : ∀ n : Fin 256, p (n.val : Int)) (b : Int) (h0 : 0 ≤ b) (h1 : b ≤ 255) : p b := by
  have := h ⟨b.toNat, by omega⟩
  simpa [Int.toNat_of_nonneg h0] using this

theorem hasB_128 (b : Int) (h0 : 0 ≤ b) (h1 : b ≤ 255) : hasB b 128 = bit7 b :=
  fin_of (p := fun b => hasB b 128 = bit7 b) (by decide +kernel) b h0 h1

theorem hasB_1 (b : Int) (h0 : 0 ≤ b) (h1 : b ≤ 255) : hasB b 1 = (b % 2 == 1) :=
  fin_of (p := fun b => hasB b 1 = (b % 2 == 1)) (by decide +kernel) b h0 h1

theorem and15_u8 (b : Int) (h0 : 0 ≤ b) (h1 : b ≤ 255) : bits .and .u8 b 15 = b % 16 :=
  fin_of (p := fun b => bits .and .u8 b 15 = b % 16) (by decide +kernel) b h0 h1

theorem and240_u8 (b : Int) (h0 : 0 ≤ b) (h1 : b ≤ 255) : bits .and .u8 b 240 = b - b % 16 :=
  fin_of (p := fun b => bits .and .u8 b 240 = b - b % 16) (by decide +kernel) b h0 h1

/-- Whether two bytes have one bit 7, and a third one another. -/
def over (a b s : Int) : Bool := (bit7 a == bit7 b) && (bit7 a != bit7 s)

theorem bit7_msb (x : Int) (h0 : 0 ≤ x) (h1 : x ≤ 255) : bit7 x = (BitVec.ofInt 8 x).msb := by
  obtain ⟨k, rfl⟩ := Int.eq_ofNat_of_zero_le h0
  rw [BitVec.msb_eq_decide, BitVec.ofInt_natCast, BitVec.toNat_ofNat, Nat.mod_eq_of_lt (by omega)]
  unfold bit7
  simp
  omega

theorem ofInt_bits (x : BitVec 8) : BitVec.ofInt 8 (x.toNat : Int) = x := by
  rw [BitVec.ofInt_natCast, BitVec.ofNat_toNat, BitVec.setWidth_eq]

theorem bit7_nat (x : BitVec 8) : bit7 (x.toNat : Int) = x.msb := by
  rw [bit7_msb _ (by omega) (by have := x.isLt; omega), ofInt_bits]

theorem u8_bv {op : BinOp} {x y : Int} (b : BitVec 8) (h : bits op .u8 x y = IntKind.u8.wrap (b.toNat : Int)) : bits op .u8 x y = (b.toNat : Int) := by
  rw [h, IntKind.wrap_u8]; have := b.isLt; omega

theorem bit7_and (x y : Int) (hx0 : 0 ≤ x) (hx1 : x ≤ 255) (hy0 : 0 ≤ y) (hy1 : y ≤ 255) : bit7 (bits .and .u8 x y) = (bit7 x && bit7 y) := by
  rw [bit7_msb x hx0 hx1, bit7_msb y hy0 hy1, ← BitVec.msb_and, ← bit7_nat]
  rw [u8_bv (BitVec.ofInt 8 x &&& BitVec.ofInt 8 y) rfl]

theorem bit7_xor (x y : Int) (hx0 : 0 ≤ x) (hx1 : x ≤ 255) (hy0 : 0 ≤ y) (hy1 : y ≤ 255) : bit7 (bits .xor .u8 x y) = (bit7 x ^^ bit7 y) := by
  rw [bit7_msb x hx0 hx1, bit7_msb y hy0 hy1, ← BitVec.msb_xor, ← bit7_nat]
  rw [u8_bv (BitVec.ofInt 8 x ^^^ BitVec.ofInt 8 y) rfl]

theorem bits_u8_bd (op : BinOp) (x y : Int) : 0 ≤ bits op .u8 x y ∧ bits op .u8 x y ≤ 255 := by
  have h : ∀ n, 0 ≤ IntKind.u8.wrap n ∧ IntKind.u8.wrap n ≤ 255 := fun n => by rw [IntKind.wrap_u8]; omega
  exact h _

theorem over_bits (a b s : Int) (h0 : 0 ≤ a) (h1 : a ≤ 255) (h2 : 0 ≤ b) (h3 : b ≤ 255) (h4 : 0 ≤ s) (h5 : s ≤ 255) :
    hasB (bits .and .u8 (bits .xor .u8 IntKind.u8.max (bits .xor .u8 a b)) (bits .xor .u8 a s)) 128 = over a b s := by
  obtain ⟨x0, x1⟩ := bits_u8_bd .xor a b
  obtain ⟨y0, y1⟩ := bits_u8_bd .xor a s
  obtain ⟨u0, u1⟩ := bits_u8_bd .xor IntKind.u8.max (bits .xor .u8 a b)
  obtain ⟨v0, v1⟩ := bits_u8_bd .and (bits .xor .u8 IntKind.u8.max (bits .xor .u8 a b)) (bits .xor .u8 a s)
  rw [hasB_128 _ v0 v1, bit7_and _ _ u0 u1 y0 y1, bit7_xor _ _ (by decide) (by decide) x0 x1, bit7_xor _ _ h0 h1 h2 h3, bit7_xor _ _ h0 h1 h4 h5]
  have : bit7 IntKind.u8.max = true := by decide
  rw [this]
  unfold over
  cases bit7 a <;> cases bit7 b <;> cases bit7 s <;> rfl

theorem over_num (a b s : Int) (h0 : 0 ≤ a) (h1 : a ≤ 255) (h2 : 0 ≤ b) (h3 : b ≤ 255) :
    over a b (s % 256) = (decide (a / 128 % 2 = b / 128 % 2) && decide (a / 128 % 2 ≠ s / 128 % 2)) := by
  unfold over bit7
  rw [Bool.eq_iff_iff]
  simp
  omega

/-- The plain sum, its answer and its flags. -/
def plS (a b : Int) (c : Bool) : Int := a + b + bI c 1
def plR (a b : Int) (c : Bool) : Int := plS a b c % 256
def plC (a b : Int) (c : Bool) : Bool := decide (255 < plS a b c)
def plV (a b : Int) (c : Bool) : Bool := over a b (plR a b c)

theorem bI_bd (c : Bool) (x : Int) (h : 0 ≤ x) : 0 ≤ bI c x ∧ bI c x ≤ x := by cases c <;> simp [bI] <;> omega

theorem plR_bd (a b : Int) (c : Bool) : 0 ≤ plR a b c ∧ plR a b c ≤ 255 := by unfold plR; omega

theorem and_i64_any (x : Int) (k : Nat) (hk : k < 63) : bits .and .i64 x ((2 ^ k - 1 : Nat) : Int) = ((((x % 18446744073709551616).toNat % 2 ^ k : Nat)) : Int) := by
  have hp : 2 ^ k ≤ 2 ^ 62 := Nat.pow_le_pow_right (by decide) (by omega)
  have h62 : (2 : Nat) ^ 62 = 4611686018427387904 := by decide
  have hx : (x % 18446744073709551616).toNat % 2 ^ k < 2 ^ k := Nat.mod_lt _ (Nat.two_pow_pos k)
  show IntKind.i64.wrap ((BitVec.ofInt 64 x &&& BitVec.ofInt 64 ((2 ^ k - 1 : Nat) : Int)).toNat : Int) = _
  have e1 : (BitVec.ofInt 64 x).toNat = (x % 18446744073709551616).toNat := by rw [BitVec.toNat_ofInt]; rfl
  have e2 : (BitVec.ofInt 64 ((2 ^ k - 1 : Nat) : Int)).toNat = 2 ^ k - 1 := by
    rw [BitVec.ofInt_natCast, BitVec.toNat_ofNat]; exact Nat.mod_eq_of_lt (by omega)
  rw [BitVec.toNat_and, e1, e2, Nat.and_two_pow_sub_one_eq_mod, IntKind.wrap_i64]
  generalize 2 ^ k = m at *
  generalize (x % 18446744073709551616).toNat % m = y at *
  omega

theorem and15_i64 (x : Int) : bits .and .i64 x 15 = x % 16 := by
  have := and_i64_any x 4 (by decide)
  simp only [Nat.reducePow, Nat.reduceSub] at this
  rw [show ((15 : Nat) : Int) = 15 from rfl] at this
  rw [this]
  omega

theorem and255_i64 (x : Int) : bits .and .i64 x 255 = x % 256 := by
  have := and_i64_any x 8 (by decide)
  simp only [Nat.reducePow, Nat.reduceSub] at this
  rw [show ((255 : Nat) : Int) = 255 from rfl] at this
  rw [this]
  omega

/-- The decimal sum: its low half, its high one, and that one behind its correction. -/
def dcS (a b : Int) (c : Bool) : Int := a % 16 + b % 16 + bI c 1
def dcL (a b : Int) (c : Bool) : Int := if 10 ≤ dcS a b c then (dcS a b c + 6) % 16 + 16 else dcS a b c
def dcH (a b : Int) (c : Bool) : Int := (a - a % 16) + (b - b % 16) + dcL a b c
def dcT (a b : Int) (c : Bool) : Int := if 160 ≤ dcH a b c then dcH a b c + 96 else dcH a b c

def adR (a b : Int) (d c : Bool) : Int := if d then dcT a b c % 256 else plR a b c
def adN (a b : Int) (d c : Bool) : Bool := if d then bit7 (dcH a b c % 256) else bit7 (plR a b c)
def adV (a b : Int) (d c : Bool) : Bool := if d then over a b (dcH a b c % 256) else plV a b c
def adZ (a b : Int) (c : Bool) : Bool := isZ (plR a b c)
def adC (a b : Int) (d c : Bool) : Bool := if d then decide (255 < dcT a b c) else plC a b c

/-- The decimal difference. -/
def sbS (a b : Int) (c : Bool) : Int := a % 16 - b % 16 - 1 + bI c 1
def sbL (a b : Int) (c : Bool) : Int := if sbS a b c < 0 then (sbS a b c - 6) % 16 - 16 else sbS a b c
def sbH (a b : Int) (c : Bool) : Int := (a - a % 16) - (b - b % 16) + sbL a b c
def sbT (a b : Int) (c : Bool) : Int := if sbH a b c < 0 then sbH a b c - 96 else sbH a b c

def sbR (a b : Int) (d c : Bool) : Int := if d then sbT a b c % 256 else plR a (255 - b) c

theorem adR_bd (a b : Int) (d c : Bool) : 0 ≤ adR a b d c ∧ adR a b d c ≤ 255 := by
  unfold adR plR; split <;> omega

theorem sbR_bd (a b : Int) (d c : Bool) : 0 ≤ sbR a b d c ∧ sbR a b d c ≤ 255 := by
  unfold sbR plR; split <;> omega

theorem compl_u8 (b : Int) (h0 : 0 ≤ b) (h1 : b ≤ 255) : bits .xor .u8 IntKind.u8.max b = 255 - b :=
  fin_of (p := fun b => bits .xor .u8 IntKind.u8.max b = 255 - b) (by decide +kernel) b h0 h1

theorem bit7_h (x : Int) : bit7 (x % 256) = (x / 128 % 2 == 1) := by
  unfold bit7
  rw [Bool.eq_iff_iff]
  simp
  omega

/-- A byte moved by a bit, and the bit that fell out. -/
def mvR (b : Int) (up inn : Bool) : Int := if up then b * 2 % 256 + bI inn 1 else b / 2 + bI inn 128
def mvC (b : Int) (up : Bool) : Bool := if up then bit7 b else b % 2 == 1

theorem mvR_bd (b : Int) (up inn : Bool) (h0 : 0 ≤ b) (h1 : b ≤ 255) : 0 ≤ mvR b up inn ∧ mvR b up inn ≤ 255 := by
  unfold mvR bI; cases up <;> cases inn <;> simp <;> omega

def cmC (a b : Int) : Bool := decide (b ≤ a)

/-- The flags' byte. -/
def pkV (n v brk d i z c : Bool) : Int := bI n 128 + bI v 64 + 32 + bI brk 16 + bI d 8 + bI i 4 + bI z 2 + bI c 1

theorem pkV_bd (n v brk d i z c : Bool) : 0 ≤ pkV n v brk d i z c ∧ pkV n v brk d i z c ≤ 255 := by
  cases n <;> cases v <;> cases brk <;> cases d <;> cases i <;> cases z <;> cases c <;> decide

theorem pk_or : ∀ n v brk d i z c : Bool, bits .or .u8 (bits .or .u8 (bits .or .u8 (bits .or .u8 (bits .or .u8 (bits .or .u8 (bits .or .u8 32 (bI n 128)) (bI v 64)) (bI brk 16)) (bI d 8)) (bI i 4)) (bI z 2)) (bI c 1) = pkV n v brk d i z c := by
  decide +kernel

theorem or128_u8 (b : Int) (h0 : 0 ≤ b) (h1 : b ≤ 255) : bits .or .u8 (b / 2) 128 = b / 2 + 128 :=
  fin_of (p := fun b => bits .or .u8 (b / 2) 128 = b / 2 + 128) (by decide +kernel) b h0 h1

theorem or1_u8 (b : Int) (h0 : 0 ≤ b) (h1 : b ≤ 255) : bits .or .u8 (b * 2 % 256) 1 = b * 2 % 256 + 1 :=
  fin_of (p := fun b => bits .or .u8 (b * 2 % 256) 1 = b * 2 % 256 + 1) (by decide +kernel) b h0 h1

theorem high_u8 : bits .xor .u8 IntKind.u8.max (bits .xor .u8 IntKind.u8.max 0 / 2) = 128 := by decide +kernel

end Go.Proofs.Ytblchdmemhhcbaa
