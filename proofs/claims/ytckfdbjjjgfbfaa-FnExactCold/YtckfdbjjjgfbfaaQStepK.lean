/-
  Contracts over the program: the model's Step.
-/
import Derived.Test.YtckfdbjjjgfbfaaQStepJ
namespace Go.Proofs.Ytckfdbjjjgfbfaa
set_option linter.unusedVariables false
set_option linter.unusedSimpArgs false
open Go.RowKit

/-- What a step, or an interrupt, answers. -/
def Stepped (w : World) (r : CpuN × BusN) (e : Ending) (w' : World) : Prop :=
  ∃ v u, e = .returned (.tuple #[cpuV r.1, ramV v, u]) ∧ OwnB w' w.heap.size v r.2.mem ∧ OwnC w' w.heap.size u r.2.log ∧ (∀ k, v.ownBlock = some k → u.ownBlock ≠ some k) ∧ Below w.heap.size w w'

theorem ownsRow_up {w : World} {base n len k : Nat} {t : TypeId} {v : Value} {L : List Value} (h : w.ownsRow base t k v len L) (hn : ∀ g, v.ownBlock = some g → n ≤ g) : w.ownsRow n t k v len L := by
  obtain ⟨h1, h2⟩ := h
  refine ⟨h1, ?_⟩
  rcases h2 with h2 | ⟨g, cap, cur, rfl, hb, rest⟩
  · exact .inl h2
  · exact .inr ⟨g, cap, cur, rfl, hn g rfl, rest⟩

abbrev newF (w : World) : Nat → Prop := fun i => w.heap.size ≤ i

/-- The bus's rows, told of the answer. -/
theorem Sit.rows {w W : World} {k B : Nat} {b : BusN} (s : Sit (newF w) w k B W b) : ∃ g cap v, W.cell? ⟨B, 0, none⟩ = some (.slice (some ⟨g, 0, none⟩) b.mem.length cap) ∧ W.cell? ⟨B, 1, none⟩ = some v ∧ B < W.heap.size ∧ w.heap.size + k ≤ B ∧
    OwnB W w.heap.size (.slice (some ⟨g, 0, none⟩) b.mem.length cap) b.mem ∧ OwnC W w.heap.size v b.log ∧ (∀ j, v.ownBlock = some j → w.heap.size + k ≤ j ∧ j ≠ g) ∧ w.heap.size + k ≤ g := by
  obtain ⟨g, cap, v, hb, ho, hc, fB, fg, hne, fv⟩ := s.bus
  refine ⟨g, cap, v, hb.cell 0 _ rfl, hb.cell 1 _ rfl, hb.lt, ?_, ⟨ho.1, ownsRow_up ho.2 (fun j ej => ?_)⟩, ownsRow_up hc (fun j ej => ?_), fun j ej => ⟨?_, (fv j ej).2.2⟩, ?_⟩
  · have h1 : w.heap.size ≤ B := fB.1
    rcases fB.2 with h | h <;> omega
  · simp only [Value.ownBlock, Option.some.injEq] at ej
    subst ej
    exact fg.1
  · exact (fv j ej).1.1
  · have h1 : w.heap.size ≤ j := (fv j ej).1.1
    rcases (fv j ej).1.2 with h | h <;> omega
  · have h1 : w.heap.size ≤ g := fg.1
    rcases fg.2 with h | h <;> omega

theorem Span.refl (lo hi : Nat) (W : World) : Span lo hi W W := Span.of_below _ _ (Below.refl _ _)

theorem Span.more {W W1 : World} {lo hi : Nat} (h : Span lo hi W W1) (o : Obj) : Span lo hi W (W1.alloc o) := h.trans (Span.of_below _ _ ((Below.refl _ _).alloc (Nat.le_refl _) _))

theorem Span.drew {W W1 : World} {lo hi : Nat} (h : Span lo hi W W1) : Span lo hi W W1.drew := h.trans (Span.of_below _ _ (Below.refl _ _).drew)

theorem Turn.new {w W : World} (h : Turn (newF w) w W) : Below w.heap.size w W := h.below (fun i hi hf => by have : w.heap.size ≤ i := hf; omega) (Nat.le_refl _)

theorem Stepped.of {w W W' : World} {k B : Nat} {b : BusN} {c : CpuN} {g cap : Nat} {v : Value} (s : Sit (newF w) w k B W b)
    (ho : OwnB W w.heap.size (.slice (some ⟨g, 0, none⟩) b.mem.length cap) b.mem) (hc : OwnC W w.heap.size v b.log) (hv : ∀ j, v.ownBlock = some j → w.heap.size + k ≤ j ∧ j ≠ g) (hg : w.heap.size + k ≤ g)
    (hs : Span w.heap.size (w.heap.size + k) W W') : Stepped w (c, b) (.returned (.tuple #[cpuV c, ramV (.slice (some ⟨g, 0, none⟩) b.mem.length cap), v])) W' := by
  have kept : ∀ j, j < W.heap.size → w.heap.size + k ≤ j → W'.heap[j]? = W.heap[j]? := fun j hj hk => hs.block j hj (.inr hk)
  refine ⟨_, _, rfl, ⟨ho.1, ?_⟩, ?_, fun j ej => ?_, s.turn.new.trans (hs.below (Nat.le_refl _) (by have := s.size; omega))⟩
  · obtain ⟨h1, h2⟩ := ho.2
    refine ⟨h1, ?_⟩
    rcases h2 with h2 | ⟨g', cap', cur, e, hb, hh, rest⟩
    · exact .inl h2
    · simp only [Value.slice.injEq, Option.some.injEq, Addr.mk.injEq] at e
      obtain ⟨⟨rfl, _⟩, _, rfl⟩ := e
      exact .inr ⟨g, cap, cur, rfl, hb, (kept g (Array.getElem?_eq_some_iff.1 hh).1 hg).trans hh, rest⟩
  · obtain ⟨h1, h2⟩ := hc
    refine ⟨h1, ?_⟩
    rcases h2 with h2 | ⟨g', cap', cur, rfl, hb, hh, rest⟩
    · exact .inl h2
    · exact .inr ⟨g', cap', cur, rfl, hb, (kept g' (Array.getElem?_eq_some_iff.1 hh).1 (hv g' rfl).1).trans hh, rest⟩
  · simp only [Value.ownBlock, Option.some.injEq] at ej
    subst ej
    intro e
    exact (hv _ e).2 rfl

end Go.Proofs.Ytckfdbjjjgfbfaa
