/-
  Plain facts on bytes and flags, without any Go program: what sums, differences and moved bits are.
-/
import Derived.Laws.BitsAllLaws
import Derived.Laws.BitsLemmas
import Derived.Laws.RangeAny
namespace Go.Proofs.Ytckfdbjjjgfbfaa
set_option linter.unusedVariables false
set_option linter.unusedSimpArgs false

def bit7 (b : Int) : Bool := decide (128 ≤ b)
def isZ (b : Int) : Bool := b == 0
def hasB (b m : Int) : Bool := bits .and .u8 b m != 0
def bI (c : Bool) (x : Int) : Int := if c then x else 0

/-- Whether two bytes have one bit 7, and a third one another. -/
def over (a b s : Int) : Bool := (bit7 a == bit7 b) && (bit7 a != bit7 s)

theorem and_i64_any (x : Int) (k : Nat) (hk : k < 63) : bits .and .i64 x ((2 ^ k - 1 : Nat) : Int) = ((((x % 18446744073709551616).toNat % 2 ^ k : Nat)) : Int) := by
  have hp : 2 ^ k ≤ 2 ^ 62 := Nat.pow_le_pow_right (by decide) (by omega)
  have h62 : (2 : Nat) ^ 62 = 4611686018427387904 := by decide
  have hx : (x % 18446744073709551616).toNat % 2 ^ k < 2 ^ k := Nat.mod_lt _ (Nat.two_pow_pos k)
  show IntKind.i64.wrap ((BitVec.ofInt 64 x &&& BitVec.ofInt 64 ((2 ^ k - 1 : Nat) : Int)).toNat : Int) = _
  have e1 : (BitVec.ofInt 64 x).toNat = (x % 18446744073709551616).toNat := by rw [BitVec.toNat_ofInt]; rfl
  have e2 : (BitVec.ofInt 64 ((2 ^ k - 1 : Nat) : Int)).toNat = 2 ^ k - 1 := by
    rw [BitVec.ofInt_natCast, BitVec.toNat_ofNat]; exact Nat.mod_eq_of_lt (by omega)
  rw [BitVec.toNat_and, e1, e2, Nat.and_two_pow_sub_one_eq_mod, IntKind.wrap_i64]
  generalize 2 ^ k = m at *
  generalize (x % 18446744073709551616).toNat % m = y at *
  omega

end Go.Proofs.Ytckfdbjjjgfbfaa
