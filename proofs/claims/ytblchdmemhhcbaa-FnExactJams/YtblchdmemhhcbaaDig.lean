/-
  Contracts over the program: spec.l01In, spec.l01Digit, impl.hexDigitsOk, impl.digitOf, impl.readDigits.
-/
import Derived.Test.YtblchdmemhhcbaaRows
import Derived.Test.YtblchdmemhhcbaaNum
import Derived.WalkKit
import Derived.WalkSpells
import Derived.WalkLawsBesides
import Derived.Laws.RangeAny
import Derived.Lib.Hide
import Derived.Deep.DeepMust
namespace Go.Proofs.Ytblchdmemhhcbaa
set_option linter.unusedVariables false
set_option linter.unusedSimpArgs false
open Go.RowKit

theorem ret_int {k : IntKind} {a b : Int} (h : a = b) : Ending.returned (.int k a) = .returned (.int k b) := by rw [h]

end Go.Proofs.Ytblchdmemhhcbaa
