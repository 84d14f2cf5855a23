/-
  Arguments that are plain data by value (integers, bools, and structs of these, however deep): their cells, one by one.
-/
import Derived.Test.YtckfdbjjjgfbfaaRows
import Derived.WalkKit
import Derived.ProofKit
import Derived.OpenShut
namespace Go.Proofs.Ytckfdbjjjgfbfaa
set_option linter.unusedVariables false
set_option linter.unusedSimpArgs false
open Go.ChangeShapes Go.WideShapes Go.RowKit

/-- A cell of a kind: a bool, or an integer that fits its kind. -/
def Fit : Option IntKind → Value → Prop
  | some k, v => ∃ n, v = .int k n ∧ (Lit.int k n).wf = true
  | none, v => ∃ b, v = .bool b

def Fits : List (Option IntKind) → List Value → Prop
  | [], [] => True
  | k :: ks, v :: vs => Fit k v ∧ Fits ks vs
  | _, _ => False

theorem fits_nil {l : List Value} (h : Fits [] l) : l = [] := by
  cases l with
  | nil => rfl
  | cons _ _ => exact h.elim

theorem fits_cons {k : Option IntKind} {ks : List (Option IntKind)} {l : List Value} (h : Fits (k :: ks) l) : ∃ v r, l = v :: r ∧ Fit k v ∧ Fits ks r := by
  cases l with
  | nil => exact h.elim
  | cons v r => exact ⟨v, r, rfl, h.1, h.2⟩

theorem fits_append : ∀ {a b : List (Option IntKind)} {x y : List Value}, Fits a x → Fits b y → Fits (a ++ b) (x ++ y)
  | [], _, x, _, h, k => by rw [fits_nil h]; exact k
  | _ :: _, _, _, _, h, k => by
    obtain ⟨v, r, rfl, h1, h2⟩ := fits_cons h
    exact ⟨h1, fits_append h2 k⟩

theorem fits_length : ∀ {a : List (Option IntKind)} {x : List Value}, Fits a x → x.length = a.length
  | [], x, h => by rw [fits_nil h]; rfl
  | _ :: _, _, h => by
    obtain ⟨v, r, rfl, _, h2⟩ := fits_cons h
    simp [fits_length h2]

/-- The cells' kinds of a list of fields that lie one behind the other. -/
def flatL (P : Program) (g : TypeId → Option (List (Option IntKind))) : Nat → List Field → Option (List (Option IntKind))
  | _, [] => some []
  | off, f :: r =>
    match g f.type with
    | none => none
    | some ks => if f.offset = off ∧ P.cellsOf f.type = ks.length then (flatL P g (off + ks.length) r).map (ks ++ ·) else none

/-- The kinds of a plain type's cells. -/
def flat (P : Program) : Nat → TypeId → Option (List (Option IntKind))
  | 0, _ => none
  | n + 1, t =>
    match P.underlying t with
    | some .bool => some [none]
    | some (.int k) => some [some k]
    | some (.struct fs) => (flatL P (flat P n) 0 fs.toList).bind fun ks => if P.cellsOf t = ks.length then some ks else none
    | _ => none

theorem flatL_fits {P : Program} {g : TypeId → Option (List (Option IntKind))} {cs : List Value} : ∀ (fs : List Field) (off : Nat) (ks : List (Option IntKind)), flatL P g off fs = some ks →
    (∀ f ∈ fs, ∀ ks', g f.type = some ks' → Fits ks' ((cs.drop f.offset).take (P.cellsOf f.type))) → Fits ks ((cs.drop off).take ks.length)
  | [], off, ks, h, _ => by
    simp only [flatL, Option.some.injEq] at h
    subst h
    simp [Fits]
  | f :: r, off, ks, h, hf => by
    simp only [flatL] at h
    cases hg : g f.type with
    | none => simp [hg] at h
    | some ks' =>
      simp only [hg] at h
      split at h
      · rename_i hc
        obtain ⟨h1, h2⟩ := hc
        cases hr : flatL P g (off + ks'.length) r with
        | none => simp [hr] at h
        | some ks'' =>
          simp only [hr, Option.map_some, Option.some.injEq] at h
          subst h
          have a1 := hf f (by simp) ks' hg
          rw [h1, h2] at a1
          have a2 := flatL_fits r (off + ks'.length) ks'' hr (fun f' hm => hf f' (by simp [hm]))
          have e : (cs.drop off).take (ks' ++ ks'').length = (cs.drop off).take ks'.length ++ (cs.drop (off + ks'.length)).take ks''.length := by
            rw [List.length_append, List.take_add, List.drop_drop]
          rw [e]
          exact fits_append a1 a2
      · cases h

theorem flat_fits {H : Type} {enc : TypeId × Value → H} {P : Program} {w : World} {base : Nat} {spare : Nat → Bool} {held : Bool} : ∀ (n : Nat) (t : TypeId) (ks : List (Option IntKind)) (cs : List Value) (m : Nat) (x : DataW H × List MemPlace),
    flat P n t = some ks → DataW.trod enc P w base spare held m t cs = some x → Fits ks cs
  | 0, _, _, _, _, _, h, _ => by simp [flat] at h
  | n + 1, t, ks, cs, m, x, h, ht => by
    unfold flat at h
    split at h
    · rename_i hu
      obtain ⟨b, rfl, _⟩ := DataW.trod_bool hu ht
      simp only [Option.some.injEq] at h
      subst h
      exact ⟨⟨b, rfl⟩, trivial⟩
    · rename_i k hu
      obtain ⟨i, rfl, _, hw⟩ := DataW.trod_int hu ht
      simp only [Option.some.injEq] at h
      subst h
      exact ⟨⟨i, rfl, hw⟩, trivial⟩
    · rename_i fs hu
      obtain ⟨xs, m', _, _, hl, hxl, hf⟩ := DataW.trod_struct hu ht
      cases hk : flatL P (flat P n) 0 fs.toList with
      | none => simp [hk] at h
      | some ks' =>
        simp only [hk, Option.bind_some] at h
        split at h
        · rename_i hc
          simp only [Option.some.injEq] at h
          subst h
          have := flatL_fits (cs := cs) fs.toList 0 ks' hk (fun f hm ks'' hg => by
            obtain ⟨i, hi⟩ := List.getElem?_of_mem hm
            have hi' : fs[i]? = some f := by simpa using hi
            have h1 := hf i f hi'
            have hlt : i < xs.length := by rw [hxl]; exact (Array.getElem?_eq_some_iff.1 hi').1
            rw [List.getElem?_eq_getElem hlt] at h1
            exact flat_fits n f.type ks'' _ m' _ hg h1)
          rw [List.drop_zero, List.take_of_length_le (by omega)] at this
          exact this
        · cases h
    · cases h

end Go.Proofs.Ytckfdbjjjgfbfaa
