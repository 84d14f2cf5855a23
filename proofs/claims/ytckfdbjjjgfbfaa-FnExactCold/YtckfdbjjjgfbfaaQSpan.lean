/-
  What a call may change of the memory: only the blocks from lo up to hi. Boxes and rows elsewhere stand as they stood.
-/
import Derived.Test.YtckfdbjjjgfbfaaQRowMore
namespace Go.Proofs.Ytckfdbjjjgfbfaa
set_option linter.unusedVariables false
set_option linter.unusedSimpArgs false
open Go.RowKit

structure Span (lo hi : Nat) (w w' : World) : Prop where
  os : w'.os = w.os
  tape : w'.tape = w.tape
  output : w'.output = w.output
  size : w.heap.size ≤ w'.heap.size
  block : ∀ i, i < w.heap.size → i < lo ∨ hi ≤ i → w'.heap[i]? = w.heap[i]?

theorem Span.of_grown {w w' : World} {lo hi g : Nat} (h : w.grownBy w' (some g)) (h1 : lo ≤ g) (h2 : g < hi) : Span lo hi w w' :=
  ⟨h.os, h.tape, h.output, h.size, fun i hi' hd => h.block i hi' (by intro e; simp only [Option.some.injEq] at e; omega)⟩

theorem Span.of_below {w w' : World} (lo hi : Nat) (h : Below w.heap.size w w') : Span lo hi w w' :=
  ⟨h.os, h.tape, h.output, h.size, fun i hi' _ => h.block i hi'⟩

theorem Span.trans {lo hi : Nat} {a b c : World} (h : Span lo hi a b) (k : Span lo hi b c) : Span lo hi a c :=
  ⟨k.os.trans h.os, k.tape.trans h.tape, k.output.trans h.output, Nat.le_trans h.size k.size, fun i hi' hd => (k.block i (Nat.lt_of_lt_of_le hi' h.size) hd).trans (h.block i hi' hd)⟩

theorem Span.wide {lo hi lo' hi' : Nat} {a b : World} (h : Span lo hi a b) (h1 : lo' ≤ lo) (h2 : hi ≤ hi') : Span lo' hi' a b :=
  ⟨h.os, h.tape, h.output, h.size, fun i hi' hd => h.block i hi' (by omega)⟩

theorem Span.below {lo hi n : Nat} {a b : World} (h : Span lo hi a b) (h1 : n ≤ lo) (h2 : n ≤ a.heap.size) : Below n a b :=
  ⟨h.os, h.tape, h.output, h.size, fun i hi' => h.block i (by omega) (.inl (by omega))⟩

theorem Span.set (w : World) (B k : Nat) (v : Value) : Span B (B + 1) w (w.setCell ⟨B, k, none⟩ v) :=
  ⟨rfl, rfl, rfl, by simp, fun i _ hd => Below.heap_setCell _ _ _ _ (by show i ≠ B; omega)⟩

/-- A box of cells. -/
def BoxN (W : World) (B : Nat) (t : TypeId) (cs : Array Value) : Prop := W.heap[B]? = some (.cells cs t (0, 0))

theorem BoxN.lt {W : World} {B : Nat} {t : TypeId} {cs : Array Value} (h : BoxN W B t cs) : B < W.heap.size := (Array.getElem?_eq_some_iff.1 h).1
theorem BoxN.cell {W : World} {B : Nat} {t : TypeId} {cs : Array Value} (h : BoxN W B t cs) (i : Nat) (v : Value) (hv : cs[i]? = some v) : W.cell? ⟨B, i, none⟩ = some v := by
  simp [World.cell?, show W.heap[B]? = _ from h, hv]
theorem BoxN.frozen {W : World} {B : Nat} {t : TypeId} {cs : Array Value} (h : BoxN W B t cs) (i : Nat) : W.frozen? ⟨B, i, none⟩ = false := by
  simp [World.frozen?, show W.heap[B]? = _ from h]
theorem BoxN.new (W : World) (t : TypeId) (cs : Array Value) : BoxN (W.alloc (.cells cs t)) W.heap.size t cs := World.alloc_heap_new W _
theorem BoxN.below {w w1 : World} {B : Nat} {t : TypeId} {cs : Array Value} (h : BoxN w B t cs) (hb : Below w.heap.size w w1) : BoxN w1 B t cs := (hb.block B h.lt).trans h
theorem BoxN.span {w w1 : World} {lo hi B : Nat} {t : TypeId} {cs : Array Value} (h : BoxN w B t cs) (hs : Span lo hi w w1) (hd : B < lo ∨ hi ≤ B) : BoxN w1 B t cs := (hs.block B h.lt hd).trans h
theorem BoxN.set {W : World} {B : Nat} {t : TypeId} {cs : Array Value} (h : BoxN W B t cs) (i : Nat) (v : Value) : BoxN (W.setCell ⟨B, i, none⟩ v) B t (cs.setIfInBounds i v) := heap_setCell_same W B i cs t v h
theorem BoxN.drew {W : World} {B : Nat} {t : TypeId} {cs : Array Value} (h : BoxN W B t cs) : BoxN W.drew B t cs := h
theorem boxN_of {W : World} {B : Nat} {t : TypeId} {v : Value} (h : Boxed W B t v) : BoxN W B t #[v] := h

/-- A row of bytes of its own, in the blocks from lo up to hi. -/
def SegB (w : World) (lo hi : Nat) (v : Value) (L : List Nat) : Prop := OwnB w lo v L ∧ ∀ k, v.ownBlock = some k → k < hi

theorem SegB.of {w : World} {lo : Nat} {v : Value} {L : List Nat} (h : OwnB w lo v L) : SegB w lo w.heap.size v L := ⟨h, fun k ek => ((World.ownsRow.lt h.2) k ek).2⟩
theorem SegB.below {w w' : World} {lo hi : Nat} {v : Value} {L : List Nat} (h : SegB w lo hi v L) (hb : Below w.heap.size w w') : SegB w' lo hi v L := ⟨h.1.below hb, h.2⟩
theorem SegB.drew {w : World} {lo hi : Nat} {v : Value} {L : List Nat} (h : SegB w lo hi v L) : SegB w.drew lo hi v L := h
theorem SegB.span {w w' : World} {lo hi lo' hi' : Nat} {v : Value} {L : List Nat} (h : SegB w lo hi v L) (hs : Span lo' hi' w w') (hd : hi ≤ lo' ∨ hi' ≤ lo) : SegB w' lo hi v L := by
  refine ⟨⟨h.1.1, ?_⟩, h.2⟩
  have ho := h.1.2
  rcases ho.2 with hn | ⟨g, cap, cur, hv, hb, hg, hrest⟩
  · exact ⟨ho.1, .inl hn⟩
  · have hgl : g < hi := h.2 g (by rw [hv]; rfl)
    refine ⟨ho.1, .inr ⟨g, cap, cur, hv, hb, ?_, hrest⟩⟩
    rw [hs.block g (Array.getElem?_eq_some_iff.1 hg).1 (by omega)]
    exact hg

theorem SegB.len {w : World} {lo hi : Nat} {v : Value} {L : List Nat} (h : SegB w lo hi v L) : ∃ a cap, v = .slice a L.length cap ∧ L.length ≤ cap := by
  rcases h.1.2.2 with ⟨rfl, h0⟩ | ⟨g, cap, cur, rfl, hb, hg, h1, _⟩
  · exact ⟨none, 0, by rw [h0], by omega⟩
  · exact ⟨_, _, rfl, h1⟩

theorem SegB.row {w : World} {lo hi : Nat} {a : Option Addr} {n cap : Nat} {L : List Nat} (h : SegB w lo hi (.slice a n cap) L) : RowB w a L := h.1.row.2

end Go.Proofs.Ytckfdbjjjgfbfaa
