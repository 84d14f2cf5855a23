/-
  Contracts over the program: the model's place of an operation (l06Place).
-/
import Derived.Test.YtblchdmemhhcbaaQSStepD
namespace Go.Proofs.Ytblchdmemhhcbaa
set_option linter.unusedVariables false
set_option linter.unusedSimpArgs false
open Go.RowKit

theorem and8 (x e : Nat) (he : x % 256 = e) : bits .and .i64 (x : Int) 255 = (e : Int) := by
  rw [and255_i64]
  omega

end Go.Proofs.Ytblchdmemhhcbaa
