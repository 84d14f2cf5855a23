/-
  A region that leaves its order open, by an invariant over the operations that are done: no order is walked.
-/
import Derived.WalkKit
import Derived.RegionTactic
import Derived.Test.YtckfdbjjjgfbfaaProg
namespace Go.Proofs.Ytckfdbjjjgfbfaa
set_option linter.unusedVariables false
set_option linter.unusedSimpArgs false

/-- How many operations are still to be done. -/
def undone (n : Nat) (listed : Array Bool) : Nat := ((List.range n).filter fun i => !listed.getD i true).length

theorem filter_less {p q : Nat → Bool} {i : Nat} (hp : p i = false) (hq : q i = true) (hpq : ∀ x, x ≠ i → p x = q x) : ∀ l : List Nat, (l.filter p).length ≤ (l.filter q).length ∧ (i ∈ l → (l.filter p).length < (l.filter q).length)
  | [] => ⟨Nat.le_refl _, fun h => by cases h⟩
  | x :: r => by
    obtain ⟨h1, h2⟩ := filter_less hp hq hpq r
    by_cases hx : x = i
    · subst hx
      rw [List.filter_cons_of_neg (by simp [hp]), List.filter_cons_of_pos hq, List.length_cons]
      exact ⟨by omega, fun _ => by omega⟩
    · have e := hpq x hx
      cases hv : q x with
      | false =>
        rw [List.filter_cons_of_neg (by simp [e, hv]), List.filter_cons_of_neg (by simp [hv])]
        exact ⟨h1, fun h => h2 ((List.mem_cons.1 h).resolve_left (Ne.symm hx))⟩
      | true =>
        rw [List.filter_cons_of_pos (by rw [e, hv]), List.filter_cons_of_pos hv, List.length_cons, List.length_cons]
        refine ⟨by omega, fun h => ?_⟩
        have := h2 ((List.mem_cons.1 h).resolve_left (Ne.symm hx))
        omega

theorem undone_step {n i : Nat} {listed : Array Bool} (hi : i < n) (hl : listed.getD i true = false) : undone n (listed.setIfInBounds i true) < undone n listed := by
  have hsz : i < listed.size := by
    rcases Nat.lt_or_ge i listed.size with h | h
    · exact h
    · rw [Array.getD_eq_getD_getElem?, Array.getElem?_eq_none h] at hl; simp at hl
  have e1 : (listed.setIfInBounds i true).getD i true = true := by rw [Array.getD_eq_getD_getElem?, Array.getElem?_setIfInBounds_self_of_lt hsz]; rfl
  exact (filter_less (p := fun j => !(listed.setIfInBounds i true).getD j true) (q := fun j => !listed.getD j true) (i := i) (by rw [e1]; rfl) (by rw [hl]; rfl) (fun x hx => by
    show (!(listed.setIfInBounds i true).getD x true) = !listed.getD x true
    rw [Array.getD_eq_getD_getElem?, Array.getD_eq_getD_getElem?, Array.getElem?_setIfInBounds_ne (Ne.symm hx)]) (List.range n)).2 (List.mem_range.2 hi)

theorem ready_mem {md : Region.Mode} {ops : Array Oper} {listed : Array Bool} {i : Nat} (h : i ∈ Region.ready md ops listed) : i < ops.size ∧ listed.getD i true = false := by
  unfold Region.ready at h
  rw [List.mem_filter, Bool.and_eq_true] at h
  exact ⟨List.mem_range.1 h.1, by simpa using h.2.1⟩

/-- THE LAW: what each operation that may come next keeps, whatever is done, holds at the end. -/
theorem wpAny_inv {P : Program} {md : Region.Mode} {ops : Array Oper} {Q : Exit → Act → World → Prop} (I : Array Bool → Act → World → Prop)
    (hstep : ∀ listed a w i, i ∈ Region.ready md ops listed → I listed a w → wpOp P ops Q i (I (listed.setIfInBounds i true)) a w)
    (hdone : ∀ listed a w, Region.ready md ops listed = [] → I listed a w → Q .normal a w) :
    ∀ (fuel : Nat) (listed : Array Bool) (a : Act) (w : World), undone ops.size listed ≤ fuel → I listed a w → wpAny P md ops Q fuel listed a w
  | 0, listed, a, w, hf, hI => by
    have hr : Region.ready md ops listed = [] := by
      cases h : Region.ready md ops listed with
      | nil => rfl
      | cons i r =>
        have hm : i ∈ Region.ready md ops listed := by rw [h]; simp
        obtain ⟨h1, h2⟩ := ready_mem hm
        have := undone_step h1 h2
        omega
    exact ⟨hr, hdone listed a w hr hI⟩
  | fuel + 1, listed, a, w, hf, hI => by
    refine ⟨fun hr => hdone listed a w hr hI, fun i hi => ?_⟩
    obtain ⟨h1, h2⟩ := ready_mem hi
    have := undone_step h1 h2
    exact wpOp_mono (fun a w h => wpAny_inv I hstep hdone fuel _ a w (by omega) h) (hstep listed a w i hi hI)

end Go.Proofs.Ytckfdbjjjgfbfaa
