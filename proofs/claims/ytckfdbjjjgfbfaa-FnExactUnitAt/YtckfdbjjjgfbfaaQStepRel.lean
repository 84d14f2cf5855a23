/-
  Rows of cycles by blocks; what a call leaves whose answer is a processor, a memory and cycles; what the statement leaves that takes it.
-/
import Derived.Test.YtckfdbjjjgfbfaaQStepLen
import Derived.Test.YtckfdbjjjgfbfaaQRamLaws
import Derived.Test.YtckfdbjjjgfbfaaQStepK
import Derived.Test.YtckfdbjjjgfbfaaQCycRow
import Derived.Test.YtckfdbjjjgfbfaaQCpuB
namespace Go.Proofs.Ytckfdbjjjgfbfaa
set_option linter.unusedVariables false
set_option linter.unusedSimpArgs false
open Go.RowKit

/-- A row of cycles of its own, in the blocks from lo up to hi. -/
def SegC (w : World) (lo hi : Nat) (v : Value) (L : List CycN) : Prop := OwnC w lo v L ∧ ∀ k, v.ownBlock = some k → k < hi

theorem SegC.below {w w' : World} {lo hi : Nat} {v : Value} {L : List CycN} (h : SegC w lo hi v L) (hb : Below w.heap.size w w') : SegC w' lo hi v L := ⟨ownC_below h.1 hb, h.2⟩

theorem SegC.drew {w : World} {lo hi : Nat} {v : Value} {L : List CycN} (h : SegC w lo hi v L) : SegC w.drew lo hi v L := h

theorem SegC.span {w w' : World} {lo hi lo' hi' : Nat} {v : Value} {L : List CycN} (h : SegC w lo hi v L) (hs : Span lo' hi' w w') (hd : hi ≤ lo' ∨ hi' ≤ lo) : SegC w' lo hi v L := by
  refine ⟨?_, h.2⟩
  obtain ⟨h1, h2⟩ := h.1
  refine ⟨h1, ?_⟩
  rcases h2 with hn | ⟨g, cap, cur, hv, hb, hg, hrest⟩
  · exact .inl hn
  · have hgl : g < hi := h.2 g (by rw [hv]; rfl)
    exact .inr ⟨g, cap, cur, hv, hb, (hs.block g (Array.getElem?_eq_some_iff.1 hg).1 (by omega)).trans hg, hrest⟩

theorem SegC.row {w : World} {lo hi : Nat} {a : Option Addr} {n cap : Nat} {L : List CycN} (h : SegC w lo hi (.slice a n cap) L) : RowC w a L := (OwnC.row h.1).2

theorem alw (W : World) (o : Obj) : Below W.heap.size W (W.alloc o) := (Below.refl _ _).alloc (Nat.le_refl _) _

end Go.Proofs.Ytckfdbjjjgfbfaa
