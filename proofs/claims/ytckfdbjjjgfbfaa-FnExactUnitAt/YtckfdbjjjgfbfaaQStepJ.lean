/-
  Contracts over the program: what kinds of operations there are; the model's Jams; boxes of a step.
-/
import Derived.Test.YtckfdbjjjgfbfaaQStepH
import Derived.WalkKit
import Derived.Lib.Hide
import Derived.Test.YtckfdbjjjgfbfaaProg
namespace Go.Proofs.Ytckfdbjjjgfbfaa
set_option linter.unusedVariables false
set_option linter.unusedSimpArgs false
open Go.RowKit

theorem peekL_lt {L : List Nat} {w : World} {a : Option Addr} (h : RowB w a L) (pc : Nat) : peekL L pc < 256 := by
  unfold peekL
  split
  · exact h.byte' _
  · omega

end Go.Proofs.Ytckfdbjjjgfbfaa
