/-
  The law's own helpers for rows of bytes and memories, by the blocks that they may change.
-/
import Derived.Test.YtckfdbjjjgfbfaaQRamB
import Derived.Test.YtckfdbjjjgfbfaaQSpan
namespace Go.Proofs.Ytckfdbjjjgfbfaa
set_option linter.unusedVariables false
set_option linter.unusedSimpArgs false
open Go.RowKit

theorem toRam_seg (a : Option Addr) (cap : Nat) (L : List Nat) (w : World) (hl : L.length ≤ 1048576) (h : RowB w a L) :
    Calls Try.prog 11 #[ramV (.slice a L.length cap)] w fun e w' => ∃ g, e = .returned (ramV (.slice (some ⟨g, 0, none⟩) L.length L.length)) ∧ SegB w' w.heap.size w'.heap.size (.slice (some ⟨g, 0, none⟩) L.length L.length) L ∧ Below w.heap.size w w' := by
  refine (toRam_any a cap L w hl h).mono ?_
  rintro e w' ⟨g, rfl, ho, hb⟩
  exact ⟨g, rfl, SegB.of ho, hb⟩

theorem eqRam_seg (a1 a2 : Option Addr) (c1 c2 : Nat) (L : List Nat) (w : World) (hl : L.length ≤ 1048576) (h1 : RowB w a1 L) (h2 : RowB w a2 L) :
    Calls Try.prog 14 #[ramV (.slice a1 L.length c1), ramV (.slice a2 L.length c2)] w fun e w' => e = .returned (.bool true) ∧ Below w.heap.size w w' := eqRam_true a1 a2 c1 c2 L w (by omega) h1 h2

end Go.Proofs.Ytckfdbjjjgfbfaa
