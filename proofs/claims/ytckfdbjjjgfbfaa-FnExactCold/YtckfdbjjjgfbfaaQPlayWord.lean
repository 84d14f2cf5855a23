/-
  A word of two bytes, as the program makes it.
-/
import Derived.Test.YtckfdbjjjgfbfaaQStepD
namespace Go.Proofs.Ytckfdbjjjgfbfaa
set_option linter.unusedVariables false
set_option linter.unusedSimpArgs false
open Go.RowKit

theorem or_wordQ {x y : Nat} (hx : x < 256) (hy : y < 256) : bits .or .u16 ((y : Int) * 256) (x : Int) = ((x + 256 * y : Nat) : Int) := by
  have e1 : (BitVec.ofInt 16 ((y : Int) * 256)).toNat = 2 ^ 8 * y := by rw [BitVec.toNat_ofInt]; omega
  have e2 : (BitVec.ofInt 16 (x : Int)).toNat = x := by rw [BitVec.toNat_ofInt]; omega
  have key : (BitVec.ofInt 16 ((y : Int) * 256) ||| BitVec.ofInt 16 (x : Int)).toNat = 2 ^ 8 * y + x := by
    rw [BitVec.toNat_or, e1, e2, Nat.two_pow_add_eq_or_of_lt (by omega)]
  show IntKind.u16.wrap ((BitVec.ofInt 16 ((y : Int) * 256) ||| BitVec.ofInt 16 (x : Int)).toNat : Nat) = _
  rw [key]
  simp only [IntKind.wrap, IntKind.bits, IntKind.signed]
  simp
  omega

set_option maxRecDepth 100000 in
theorem implWord_any (x y : Nat) (hx : x < 256) (hy : y < 256) (w : World) :
    Calls Try.prog 31 #[.int .u8 x, .int .u8 y] w fun e w' => e = .returned (.int .u16 ((x + 256 * y : Nat) : Int)) ∧ w = w' := by
  go_enter Try.func31, Try.ntmps31
  go_wp2
  go_ret
  exact ⟨congrArg (fun v => Ending.returned (Value.int .u16 v)) (or_wordQ hx hy), rfl⟩

end Go.Proofs.Ytckfdbjjjgfbfaa
