/-
  Contracts over the program: the model's branch (l06Branch), what is pushed and pulled (l06Push, l06Hold).
-/
import Derived.Test.YtckfdbjjjgfbfaaQStepD
import Derived.Deep.RegionHeld3
namespace Go.Proofs.Ytckfdbjjjgfbfaa
set_option linter.unusedVariables false
set_option linter.unusedSimpArgs false
open Go.RowKit

theorem Sit.drew {F : Nat → Prop} {w W : World} {k B : Nat} {b : BusN} (s : Sit F w k B W b) : Sit F w k B W.drew b := s.below (Below.refl _ _).drew

end Go.Proofs.Ytckfdbjjjgfbfaa
