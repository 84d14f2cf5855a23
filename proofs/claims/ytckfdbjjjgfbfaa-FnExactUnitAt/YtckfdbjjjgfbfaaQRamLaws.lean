/-
  The exact laws of memories, walked over any program whose functions keep these contracts.
-/
import Derived.Test.YtckfdbjjjgfbfaaQRamSeg
import Derived.Deep.RegionHeld3
namespace Go.Proofs.Ytckfdbjjjgfbfaa
set_option linter.unusedVariables false
set_option linter.unusedSimpArgs false
open Go.RowKit

/-- Two boxes of one cell, as they stood behind a call. -/
theorem two_keep {w w1 : World} {B C : Nat} {u v : Value} (hb : Below w.heap.size w w1) (h : w.cell? ⟨B, 0, none⟩ = some u ∧ w.cell? ⟨C, 0, none⟩ = some v ∧ B < w.heap.size ∧ C < w.heap.size) : w1.cell? ⟨B, 0, none⟩ = some u ∧ w1.cell? ⟨C, 0, none⟩ = some v ∧ B < w1.heap.size ∧ C < w1.heap.size :=
  ⟨cellKept hb h.1 h.2.2.1, cellKept hb h.2.1 h.2.2.2, Nat.lt_of_lt_of_le h.2.2.1 hb.size, Nat.lt_of_lt_of_le h.2.2.2 hb.size⟩

end Go.Proofs.Ytckfdbjjjgfbfaa
