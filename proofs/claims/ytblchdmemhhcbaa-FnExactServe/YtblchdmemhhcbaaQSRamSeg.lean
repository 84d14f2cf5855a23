/-
  The law's own helpers for rows of bytes and memories, by the blocks that they may change.
-/
import Derived.Test.YtblchdmemhhcbaaQSRamB
import Derived.Test.YtblchdmemhhcbaaQSSpan
namespace Go.Proofs.Ytblchdmemhhcbaa
set_option linter.unusedVariables false
set_option linter.unusedSimpArgs false
open Go.RowKit

theorem toRam_seg (a : Option Addr) (cap : Nat) (L : List Nat) (w : World) (hl : L.length ≤ 1048576) (h : RowB w a L) :
    Calls Try.prog 8 #[ramV (.slice a L.length cap)] w fun e w' => ∃ g, e = .returned (ramV (.slice (some ⟨g, 0, none⟩) L.length L.length)) ∧ SegB w' w.heap.size w'.heap.size (.slice (some ⟨g, 0, none⟩) L.length L.length) L ∧ Below w.heap.size w w' := by
  refine (toRam_any a cap L w hl h).mono ?_
  rintro e w' ⟨g, rfl, ho, hb⟩
  exact ⟨g, rfl, SegB.of ho, hb⟩

theorem eqRam_seg (a1 a2 : Option Addr) (c1 c2 : Nat) (L : List Nat) (w : World) (hl : L.length ≤ 1048576) (h1 : RowB w a1 L) (h2 : RowB w a2 L) :
    Calls Try.prog 11 #[ramV (.slice a1 L.length c1), ramV (.slice a2 L.length c2)] w fun e w' => e = .returned (.bool true) ∧ Below w.heap.size w w' := eqRam_true a1 a2 c1 c2 L w (by omega) h1 h2

theorem markRam_seg (a : Option Addr) (cap k0 lo hi : Nat) (L : List Nat) (w : World) (hl : L.length ≤ 1048576) (hk : k0 ≤ 100000000) (h : SegB w lo hi (.slice a L.length cap) L) :
    Calls Try.prog 13 #[ramV (.slice a L.length cap), .int .i64 k0] w fun e w' => e = .returned (.int .i64 (k0 + L.length : Nat)) ∧ SegB w' lo hi (.slice a L.length cap) (marksB k0 L.length) ∧ Span lo hi w w' := by
  by_cases h0 : L.length = 0
  · obtain rfl : L = [] := List.length_eq_zero_iff.1 h0
    refine (markRam_empty a cap k0 w).mono ?_
    rintro e w' ⟨rfl, hb⟩
    exact ⟨rfl, h.below hb, Span.of_below _ _ hb⟩
  · obtain ⟨g, cp, hv, _⟩ := h.1.cells (by omega)
    simp only [Value.slice.injEq] at hv
    obtain ⟨rfl, _, rfl⟩ := hv
    have hlo := ((World.ownsRow.lt h.1.2) g rfl).1
    have hhi := h.2 g rfl
    refine (markRam_any g L.length cap k0 lo L w rfl (by omega) h.1).mono ?_
    rintro e w' ⟨rfl, ho, hg⟩
    exact ⟨rfl, ⟨ho, h.2⟩, Span.of_grown hg hlo hhi⟩

theorem heldRam_seg (a : Option Addr) (cap k0 n lo hi : Nat) (w : World) (hn : n ≤ 1048576) (hk : k0 ≤ 100000000) (h : SegB w lo hi (.slice a n cap) (marksB k0 n)) :
    Calls Try.prog 15 #[ramV (.slice a n cap), .int .i64 k0] w fun e w' => e = .returned (.int .i64 (k0 + n : Nat)) ∧ Below w.heap.size w w' := heldRam_any a n cap k0 w (by omega) h.row

end Go.Proofs.Ytblchdmemhhcbaa
