/-
  Regions that leave their order open: a fact that waits for one operation.
-/
import Derived.Test.YtckfdbjjjgfbfaaQRegCpu
namespace Go.Proofs.Ytckfdbjjjgfbfaa
set_option linter.unusedVariables false
set_option linter.unusedSimpArgs false

theorem nr {p q : Prop} (h : p ∨ q) (n : ¬ p := by decide) : q := h.resolve_left n

end Go.Proofs.Ytckfdbjjjgfbfaa
