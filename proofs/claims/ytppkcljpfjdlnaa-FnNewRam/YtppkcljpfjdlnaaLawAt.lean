/-
  Contracts over the law's own helper at: a byte of the code, or a number by its place.
-/
import Derived.Test.YtppkcljpfjdlnaaDraw
namespace Go.Proofs.Ytppkcljpfjdlnaa
set_option linter.unusedVariables false
set_option linter.unusedSimpArgs false
open Go.RowKit

def atV (z : List Int) (len i : Nat) : Int := if i < len then z[i]?.getD 0 else (((i * 7 + len) % 256 : Nat) : Int)

set_option maxRecDepth 100000 in
theorem at_any (n₀ : Nat) (a : Option Addr) (len cap i : Nat) (hi : i ≤ 1000) (z : List Int) (w : World) (hc : CodeRow n₀ w a len z) :
    Calls Try.prog 30 #[.slice a len cap, .int .i64 i] w fun e w' => e = .returned (.int .i64 (atV z len i)) ∧ w = w' := by
  by_cases h : i < len
  · have e : atV z len i = z[i]?.getD 0 := if_pos h
    obtain ⟨b, off, rfl, _, h3⟩ := hc.2 (by omega)
    obtain ⟨hcell, h4, h5⟩ := h3 i h
    rw [e]
    generalize z[i]?.getD 0 = x at hcell h4 h5 ⊢
    have ii : (0 : Int) ≤ (i : Int) ∧ (i : Int) < (len : Int) := by omega
    clear h3 e hc
    go_enter Try.func30, Try.ntmps30
    go_wp2
    go_ret
    exact ⟨rfl, rfl⟩
  · have hl := hc.1
    have e : atV z len i = (((i * 7 + len) % 256 : Nat) : Int) := if_neg h
    rw [e]
    have ii : ¬ (i : Int) < (len : Int) := by omega
    have hm : ((i : Int) * 7 + (len : Int)).tmod 256 = (((i * 7 + len) % 256 : Nat) : Int) := by rw [Int.tmod_eq_emod_of_nonneg (by omega)]; omega
    have HM := Lib.hid hm
    have HE : Hid (((i : Int) * 7 + (len : Int)) % 256 = (((i * 7 + len) % 256 : Nat) : Int)) := Lib.hid (by omega)
    clear e hc hm
    go_enter Try.func30, Try.ntmps30
    go_wp2
    go_ret
    exact ⟨by first | (rw [HE.out]; rfl) | (rw [HM.out]; rfl), rfl⟩

theorem atV_bd {n₀ : Nat} {w : World} {a : Option Addr} {len : Nat} {z : List Int} (hc : CodeRow n₀ w a len z) (i : Nat) : ∃ x : Nat, x < 256 ∧ atV z len i = (x : Int) := by
  unfold atV
  split
  · rename_i h
    obtain ⟨b, off, _, _, h3⟩ := hc.2 (by omega)
    obtain ⟨_, h4, h5⟩ := h3 i h
    exact ⟨(z[i]?.getD 0).toNat, by omega, by omega⟩
  · exact ⟨(i * 7 + len) % 256, by omega, rfl⟩

end Go.Proofs.Ytppkcljpfjdlnaa
