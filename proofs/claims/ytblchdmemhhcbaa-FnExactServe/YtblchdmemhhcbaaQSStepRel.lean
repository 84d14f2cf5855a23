/-
  Rows of cycles by blocks; what a call leaves whose answer is a processor, a memory and cycles; what the statement leaves that takes it.
-/
import Derived.Test.YtblchdmemhhcbaaQSStepLen
import Derived.Test.YtblchdmemhhcbaaQSStepLaws
import Derived.Test.YtblchdmemhhcbaaQSCycRow
import Derived.Test.YtblchdmemhhcbaaQSCpuB
namespace Go.Proofs.Ytblchdmemhhcbaa
set_option linter.unusedVariables false
set_option linter.unusedSimpArgs false
open Go.RowKit

/-- A row of cycles of its own, in the blocks from lo up to hi. -/
def SegC (w : World) (lo hi : Nat) (v : Value) (L : List CycN) : Prop := OwnC w lo v L ∧ ∀ k, v.ownBlock = some k → k < hi

theorem SegC.below {w w' : World} {lo hi : Nat} {v : Value} {L : List CycN} (h : SegC w lo hi v L) (hb : Below w.heap.size w w') : SegC w' lo hi v L := ⟨ownC_below h.1 hb, h.2⟩

theorem SegC.drew {w : World} {lo hi : Nat} {v : Value} {L : List CycN} (h : SegC w lo hi v L) : SegC w.drew lo hi v L := h

theorem SegC.span {w w' : World} {lo hi lo' hi' : Nat} {v : Value} {L : List CycN} (h : SegC w lo hi v L) (hs : Span lo' hi' w w') (hd : hi ≤ lo' ∨ hi' ≤ lo) : SegC w' lo hi v L := by
  refine ⟨?_, h.2⟩
  obtain ⟨h1, h2⟩ := h.1
  refine ⟨h1, ?_⟩
  rcases h2 with hn | ⟨g, cap, cur, hv, hb, hg, hrest⟩
  · exact .inl hn
  · have hgl : g < hi := h.2 g (by rw [hv]; rfl)
    exact .inr ⟨g, cap, cur, hv, hb, (hs.block g (Array.getElem?_eq_some_iff.1 hg).1 (by omega)).trans hg, hrest⟩

theorem SegC.row {w : World} {lo hi : Nat} {a : Option Addr} {n cap : Nat} {L : List CycN} (h : SegC w lo hi (.slice a n cap) L) : RowC w a L := (OwnC.row h.1).2

theorem markC_seg (a : Option Addr) (cap k0 lo hi : Nat) (L : List CycN) (w : World) (hl : L.length ≤ 1048576) (hk : k0 ≤ 100000000) (h : SegC w lo hi (.slice a L.length cap) L) :
    Calls Try.prog 14 #[.slice a L.length cap, .int .i64 k0] w fun e w' => e = .returned (.int .i64 (k0 + 3 * L.length : Nat)) ∧ SegC w' lo hi (.slice a L.length cap) (marksC k0 L.length) ∧ Span lo hi w w' := by
  by_cases h0 : L.length = 0
  · obtain rfl : L = [] := List.length_eq_zero_iff.1 h0
    refine (markC_empty a cap k0 w hk).mono ?_
    rintro e w' ⟨rfl, rfl⟩
    exact ⟨rfl, h, Span.refl _ _ _⟩
  · have h1 := h.1
    rcases h1.2 with ⟨_, hn⟩ | ⟨g, cp, cur, hv, hb, hg, _⟩
    · omega
    · simp only [Value.slice.injEq] at hv
      obtain ⟨rfl, _, rfl⟩ := hv
      refine (markC_any g L.length cap k0 lo L w rfl hl hk h1).mono ?_
      rintro e w' ⟨rfl, ho, hgr⟩
      exact ⟨rfl, ⟨ho, h.2⟩, Span.of_grown hgr hb (h.2 g rfl)⟩

theorem heldC_seg (a : Option Addr) (cap k0 n lo hi : Nat) (w : World) (hn : n ≤ 1048576) (hk : k0 ≤ 100000000) (h : SegC w lo hi (.slice a n cap) (marksC k0 n)) :
    Calls Try.prog 16 #[.slice a n cap, .int .i64 k0] w fun e w' => e = .returned (.int .i64 (k0 + 3 * n : Nat)) ∧ Below w.heap.size w w' := heldC_any a n cap k0 w hn hk h.row

/-- What such a call leaves. -/
def Steps3 (V : World) (r : CpuN × BusN) (e : Ending) (W : World) : Prop :=
  ∃ a cap a2 cap2 lo hi lo2 hi2, e = .returned (.tuple #[cpuV r.1, ramV (.slice a r.2.mem.length cap), .slice a2 r.2.log.length cap2]) ∧ SegB W lo hi (.slice a r.2.mem.length cap) r.2.mem ∧ SegC W lo2 hi2 (.slice a2 r.2.log.length cap2) r.2.log ∧
    (V.heap.size ≤ lo ∧ hi ≤ W.heap.size ∧ V.heap.size ≤ lo2 ∧ hi2 ≤ W.heap.size ∧ lo ≤ hi ∧ lo2 ≤ hi2 ∧ (hi ≤ lo2 ∨ hi2 ≤ lo)) ∧ Below V.heap.size V W

theorem Stepped.three {V W : World} {r : CpuN × BusN} {e : Ending} (h : Stepped V r e W) : Steps3 V r e W := by
  obtain ⟨v, u, rfl, ho, hc, hne, hb⟩ := h
  have hz := hb.size
  have B1 : ∃ a cap, v = .slice a r.2.mem.length cap ∧ ((∃ g, v.ownBlock = some g ∧ V.heap.size ≤ g ∧ g < W.heap.size) ∨ v.ownBlock = none) := by
    obtain ⟨h1, h2⟩ := ho.2
    rcases h2 with ⟨hn, h0⟩ | ⟨g, cp, cur, hv, hg, hh, _⟩
    · exact ⟨none, 0, by rw [hn]; rw [show r.2.mem.length = 0 by simpa using h0], .inr (by rw [hn]; rfl)⟩
    · exact ⟨_, _, hv, .inl ⟨g, by rw [hv]; rfl, hg, (Array.getElem?_eq_some_iff.1 hh).1⟩⟩
  have B2 : ∃ a cap, u = .slice a r.2.log.length cap ∧ ((∃ g, u.ownBlock = some g ∧ V.heap.size ≤ g ∧ g < W.heap.size) ∨ u.ownBlock = none) := by
    obtain ⟨h1, h2⟩ := hc
    rcases h2 with ⟨hn, h0⟩ | ⟨g, cp, cur, hv, hg, hh, _⟩
    · exact ⟨none, 0, by rw [hn]; rw [show r.2.log.length = 0 by simpa using h0], .inr (by rw [hn]; rfl)⟩
    · exact ⟨_, _, hv, .inl ⟨g, by rw [hv]; rfl, hg, (Array.getElem?_eq_some_iff.1 hh).1⟩⟩
  obtain ⟨a, cap, rfl, A1⟩ := B1
  obtain ⟨a2, cap2, rfl, A2⟩ := B2
  have own1 : ∀ n, (∀ k, (Value.slice a r.2.mem.length cap).ownBlock = some k → n ≤ k) → OwnB W n (.slice a r.2.mem.length cap) r.2.mem := fun n hn => ⟨ho.1, ownsRow_up ho.2 hn⟩
  have own2 : ∀ n, (∀ k, (Value.slice a2 r.2.log.length cap2).ownBlock = some k → n ≤ k) → OwnC W n (.slice a2 r.2.log.length cap2) r.2.log := fun n hn => ownsRow_up hc hn
  rcases A1 with ⟨g, e1, g1, g2⟩ | e1 <;> rcases A2 with ⟨g', e2, g3, g4⟩ | e2
  · refine ⟨a, cap, a2, cap2, g, g + 1, g', g' + 1, rfl, ⟨own1 g ?_, ?_⟩, ⟨own2 g' ?_, ?_⟩, ⟨g1, g2, g3, g4, by omega, by omega, ?_⟩, hb⟩
    · intro k ek; rw [e1] at ek; simp only [Option.some.injEq] at ek; omega
    · intro k ek; rw [e1] at ek; simp only [Option.some.injEq] at ek; omega
    · intro k ek; rw [e2] at ek; simp only [Option.some.injEq] at ek; omega
    · intro k ek; rw [e2] at ek; simp only [Option.some.injEq] at ek; omega
    · have : g ≠ g' := fun e => hne g e1 (by rw [e2, e])
      omega
  · refine ⟨a, cap, a2, cap2, g, g + 1, W.heap.size, W.heap.size, rfl, ⟨own1 g ?_, ?_⟩, ⟨own2 _ ?_, ?_⟩, ⟨g1, g2, hz, Nat.le_refl _, by omega, by omega, .inl (by omega)⟩, hb⟩
    · intro k ek; rw [e1] at ek; simp only [Option.some.injEq] at ek; omega
    · intro k ek; rw [e1] at ek; simp only [Option.some.injEq] at ek; omega
    · intro k ek; rw [e2] at ek; cases ek
    · intro k ek; rw [e2] at ek; cases ek
  · refine ⟨a, cap, a2, cap2, W.heap.size, W.heap.size, g', g' + 1, rfl, ⟨own1 _ ?_, ?_⟩, ⟨own2 g' ?_, ?_⟩, ⟨hz, Nat.le_refl _, g3, g4, by omega, by omega, .inr (by omega)⟩, hb⟩
    · intro k ek; rw [e1] at ek; cases ek
    · intro k ek; rw [e1] at ek; cases ek
    · intro k ek; rw [e2] at ek; simp only [Option.some.injEq] at ek; omega
    · intro k ek; rw [e2] at ek; simp only [Option.some.injEq] at ek; omega
  · refine ⟨a, cap, a2, cap2, W.heap.size, W.heap.size, W.heap.size, W.heap.size, rfl, ⟨own1 _ ?_, ?_⟩, ⟨own2 _ ?_, ?_⟩, ⟨hz, Nat.le_refl _, hz, Nat.le_refl _, by omega, by omega, .inl (by omega)⟩, hb⟩
    · intro k ek; rw [e1] at ek; cases ek
    · intro k ek; rw [e1] at ek; cases ek
    · intro k ek; rw [e2] at ek; cases ek
    · intro k ek; rw [e2] at ek; cases ek

/-- What the statement leaves that takes it: two boxes and the cycles. -/
def Took3 (V : World) (r : CpuN × BusN) (p q u : Value) (W : World) : Prop :=
  ∃ P Q a cap a2 cap2 lo hi lo2 hi2, p = .pointer (some ⟨P, 0, none⟩) ∧ q = .pointer (some ⟨Q, 0, none⟩) ∧ u = .slice a2 r.2.log.length cap2 ∧
    BoxN W P 33 (cpuCells r.1) ∧ BoxN W Q 34 #[.slice a r.2.mem.length cap] ∧ SegB W lo hi (.slice a r.2.mem.length cap) r.2.mem ∧ SegC W lo2 hi2 (.slice a2 r.2.log.length cap2) r.2.log ∧
    (V.heap.size ≤ P ∧ V.heap.size ≤ Q ∧ P ≠ Q ∧ V.heap.size ≤ lo ∧ hi ≤ W.heap.size ∧ V.heap.size ≤ lo2 ∧ hi2 ≤ W.heap.size ∧ lo ≤ hi ∧ lo2 ≤ hi2 ∧ (hi ≤ lo2 ∨ hi2 ≤ lo) ∧ (P < lo ∨ hi ≤ P) ∧ (P < lo2 ∨ hi2 ≤ P) ∧ (Q < lo ∨ hi ≤ Q) ∧ (Q < lo2 ∨ hi2 ≤ Q)) ∧ Below V.heap.size V W

theorem alw (W : World) (o : Obj) : Below W.heap.size W (W.alloc o) := (Below.refl _ _).alloc (Nat.le_refl _) _

end Go.Proofs.Ytblchdmemhhcbaa
