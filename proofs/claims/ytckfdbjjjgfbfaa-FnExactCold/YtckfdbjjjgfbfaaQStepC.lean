/-
  Contracts over the program: the model's operation without an operand (l06Imp).
-/
import Derived.Test.YtckfdbjjjgfbfaaQStepA
namespace Go.Proofs.Ytckfdbjjjgfbfaa
set_option linter.unusedVariables false
set_option linter.unusedSimpArgs false
open Go.RowKit

abbrev set6 (W : World) (B : Nat) (v5 v6 v7 v8 v9 v10 : Value) : World := (((((W.setCell ⟨B, 5, none⟩ v5).setCell ⟨B, 6, none⟩ v6).setCell ⟨B, 7, none⟩ v7).setCell ⟨B, 8, none⟩ v8).setCell ⟨B, 9, none⟩ v9).setCell ⟨B, 10, none⟩ v10

end Go.Proofs.Ytckfdbjjjgfbfaa
