/-
  Plain facts on runs, without any Go: the units' starts rise, the first one at 0; the unit of a cycle.
-/
import Derived.Test.YtckfdbjjjgfbfaaQRunNum
import Derived.Test.YtckfdbjjjgfbfaaQStepLen
namespace Go.Proofs.Ytckfdbjjjgfbfaa
set_option linter.unusedVariables false
set_option linter.unusedSimpArgs false
open Go.RowKit

/-- How many starts are at or ahead of a place. -/
def upTo (S : List Int) (i : Int) : Nat := (S.filter fun x => decide (x ≤ i)).length

def unitAtN (S : List Int) (n : Nat) (i : Int) : Int := if 0 ≤ i ∧ i ≤ (n : Int) - 1 then (upTo S i : Int) - 1 else -1

theorem upTo_le (S : List Int) (i : Int) : upTo S i ≤ S.length := List.length_filter_le _ _

end Go.Proofs.Ytckfdbjjjgfbfaa
