/-
  Plain facts on a step, without any Go: how many bytes its memory has, how many cycles there are.
-/
import Derived.Test.YtckfdbjjjgfbfaaQStepK
namespace Go.Proofs.Ytckfdbjjjgfbfaa
set_option linter.unusedVariables false
set_option linter.unusedSimpArgs false
open Go.RowKit

/-- As many bytes, and not more than n cycles more. -/
def Grew (b b' : BusN) (n : Nat) : Prop := b'.mem.length = b.mem.length ∧ b'.log.length ≤ b.log.length + n

theorem Grew.same (b : BusN) (n : Nat) : Grew b b n := ⟨rfl, by omega⟩
theorem Grew.rd {b b' : BusN} {n a : Nat} (h : Grew b b' n) : Grew b (b'.rd a) (n + 1) := ⟨h.1, by have := h.2; simp [BusN.rd]; omega⟩
theorem Grew.put {b b' : BusN} {n a d : Nat} (h : Grew b b' n) : Grew b (b'.put a d) (n + 1) := ⟨by have := h.1; simp [BusN.put]; exact this, by have := h.2; simp [BusN.put]; omega⟩
theorem Grew.mono {b b' : BusN} {n m : Nat} (h : Grew b b' n) (hm : n ≤ m) : Grew b b' m := ⟨h.1, by have := h.2; omega⟩

end Go.Proofs.Ytckfdbjjjgfbfaa
