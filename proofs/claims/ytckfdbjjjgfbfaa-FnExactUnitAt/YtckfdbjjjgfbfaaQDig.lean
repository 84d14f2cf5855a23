/-
  Contracts over the program: spec.l01In, spec.l01Digit, impl.hexDigitsOk, impl.digitOf, impl.readDigits.
-/
import Derived.Test.YtckfdbjjjgfbfaaRows
import Derived.Test.YtckfdbjjjgfbfaaQNum
import Derived.WalkKit
import Derived.WalkSpells
import Derived.WalkLawsBesides
import Derived.Laws.RangeAny
import Derived.Lib.Hide
import Derived.Deep.DeepMust
namespace Go.Proofs.Ytckfdbjjjgfbfaa
set_option linter.unusedVariables false
set_option linter.unusedSimpArgs false
open Go.RowKit

theorem in_any (x a b : Int) (w : World) :
    Calls Try.prog 37 #[.int .i64 x, .int .i64 a, .int .i64 b] w fun e w' => e = .returned (.bool (decide (a ≤ x) && decide (x ≤ b))) ∧ w = w' := by
  go_enter Try.func37, Try.ntmps37
  go_wp2
  all_goals (go_ret; refine ⟨?_, rfl⟩; first | (simp [*]; done) | (simp [*]; omega))

end Go.Proofs.Ytckfdbjjjgfbfaa
