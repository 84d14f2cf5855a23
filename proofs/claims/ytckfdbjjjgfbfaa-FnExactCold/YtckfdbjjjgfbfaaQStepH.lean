/-
  Contracts over the program: the model's operations on a place (l06Data).
-/
import Derived.Test.YtckfdbjjjgfbfaaQStepF
import Derived.WalkKit
import Derived.Lib.Hide
import Derived.Test.YtckfdbjjjgfbfaaProg
import Derived.StillTailTactics
import Derived.Deep.Cut
import Derived.Deep.RegionWith
namespace Go.Proofs.Ytckfdbjjjgfbfaa
set_option linter.unusedVariables false
set_option linter.unusedSimpArgs false
open Go.RowKit

abbrev set11 (W : World) (B : Nat) (v0 v1 v2 v3 v4 v5 v6 v7 v8 v9 v10 : Value) : World := set6 (((((W.setCell ⟨B, 0, none⟩ v0).setCell ⟨B, 1, none⟩ v1).setCell ⟨B, 2, none⟩ v2).setCell ⟨B, 3, none⟩ v3).setCell ⟨B, 4, none⟩ v4) B v5 v6 v7 v8 v9 v10

theorem Sit.eleven {F : Nat → Prop} {w W : World} {k B : Nat} {b : BusN} (s : Sit F w k B W b) {n : Nat} (v0 v1 v2 v3 v4 v5 v6 v7 v8 v9 v10 : Value) (h1 : w.heap.size ≤ n) (h2 : n < w.heap.size + k) : Sit F w k B (set11 W n v0 v1 v2 v3 v4 v5 v6 v7 v8 v9 v10) b :=
  (((((s.set v0 h1 h2).set v1 h1 h2).set v2 h1 h2).set v3 h1 h2).set v4 h1 h2).six v5 v6 v7 v8 v9 v10 h1 h2

end Go.Proofs.Ytckfdbjjjgfbfaa
