/-
  Contracts over the program: the model's place of an operation (l06Place).
-/
import Derived.Test.YtblchdmemhhcbaaStepD
namespace Go.Proofs.Ytblchdmemhhcbaa
set_option linter.unusedVariables false
set_option linter.unusedSimpArgs false
open Go.RowKit

theorem page_of (p x e v : Nat) (hp : p < 70000) (he : bits .and .i64 (x : Int) 65535 = (e : Int)) (he2 : e < 65536) (hv : p / 256 * 256 + e % 256 = v) : wrap64 ((p : Int) / 256 * 256 + (bits .and .i64 (x : Int) 65535).tmod 256) = (v : Int) := by
  rw [he, ← hv]
  have h1 : (e : Int).tmod 256 = ((e % 256 : Nat) : Int) := by rw [Int.tmod_eq_emod_of_nonneg (by omega)]; omega
  rw [h1]
  rw [IntWalk.wrap64_in _ (by omega)]
  omega

theorem and16 (x e : Nat) (hx : x < 1000000) (he : x % 65536 = e) : bits .and .i64 (x : Int) 65535 = (e : Int) := by
  have := and_i64_any (x : Int) 16 (by omega)
  simp at this
  omega

theorem and8 (x e : Nat) (he : x % 256 = e) : bits .and .i64 (x : Int) 255 = (e : Int) := by
  rw [and255_i64]
  omega

/-- The place lies in the page of the address without the register. -/
def wCase (b : BusN) (c : CpuN) (m : Int) : Prop := (baseN b c m).1 / 256 * 256 + ((baseN b c m).1 + idxN c m) % 65536 % 256 = ((baseN b c m).1 + idxN c m) % 65536

end Go.Proofs.Ytblchdmemhhcbaa
