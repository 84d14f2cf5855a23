/-
  An event, in plain words.
-/
import Derived.Test.YtckfdbjjjgfbfaaQCpuNum
namespace Go.Proofs.Ytckfdbjjjgfbfaa
set_option linter.unusedVariables false
set_option linter.unusedSimpArgs false

/-- An event: ahead of which unit, and whether it is an Nmi. -/
structure EvN where
  at' : Int
  nmi : Bool

end Go.Proofs.Ytckfdbjjjgfbfaa
