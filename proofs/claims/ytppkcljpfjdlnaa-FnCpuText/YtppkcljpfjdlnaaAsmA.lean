/-
  Contracts over the program: the model's text of an operation (ShowOp).
-/
import Derived.Test.YtppkcljpfjdlnaaRowMore
import Derived.Test.YtppkcljpfjdlnaaOpC
import Derived.Test.YtppkcljpfjdlnaaAsmNum
import Derived.Test.YtppkcljpfjdlnaaHexText
import Derived.Deep.QuietTactic
import Derived.BigQuiet
import Derived.WalkSmall
namespace Go.Proofs.Ytppkcljpfjdlnaa
set_option linter.unusedVariables false
set_option linter.unusedSimpArgs false
open Go.RowKit

/-- A row of n bytes of which the first three are told. -/
def Three (w : World) (a : Option Addr) (n x0 x1 x2 : Nat) : Prop :=
  n = 0 ∨ ∃ g o, a = some ⟨g, o, none⟩ ∧ g < w.heap.size ∧ w.cell? ⟨g, o, none⟩ = some (.int .u8 x0) ∧ (2 ≤ n → w.cell? ⟨g, o + 1, none⟩ = some (.int .u8 x1)) ∧ (3 ≤ n → w.cell? ⟨g, o + 2, none⟩ = some (.int .u8 x2))

theorem relBits (pc x1 : Nat) : bits .and .i64 ((pc : Int) + 2 + offB x1) 65535 = ((relAt pc x1 : Nat) : Int) := by
  rw [i64_and65535, relAt]; omega

end Go.Proofs.Ytppkcljpfjdlnaa
