/-
  Arguments by value of any depth: integers, bools, texts, slices of plain elements, and structs of these: their cells, one by one.
-/
import Derived.Test.YtckfdbjjjgfbfaaQPlain
import Derived.Deep.Slices
namespace Go.Proofs.Ytckfdbjjjgfbfaa
set_option linter.unusedVariables false
set_option linter.unusedSimpArgs false
open Go.ChangeShapes Go.WideShapes Go.RowKit

/-- The kind of one cell: a bool, an integer, a text, or a slice whose elements have cells of these kinds. -/
inductive Ck
  | b
  | i (k : IntKind)
  | s
  | sl (ks : List (Option IntKind))

/-- A slice of plain elements that came in: nil, or a row of cells, element by element. -/
def RowOf (ks : List (Option IntKind)) (w : World) (a : Option Addr) (len cap : Nat) : Prop :=
  (a = none ∧ len = 0 ∧ cap = 0) ∨
  ∃ x, a = some x ∧ len ≤ cap ∧ cap ≤ maxLen ∧ ∃ V : Nat → List Value, ∀ i, i < len → Fits ks (V i) ∧ ∀ j, j < ks.length → w.cell? (x.add (i * ks.length + j)) = some ((V i).getD j undef)

def FitW (w : World) : Ck → Value → Prop
  | .b, v => ∃ b, v = .bool b
  | .i k, v => ∃ n, v = .int k n ∧ (Lit.int k n).wf = true
  | .s, v => ∃ s : ByteArray, v = .string s ∧ s.size ≤ maxLen
  | .sl ks, v => ∃ a len cap, v = .slice a len cap ∧ RowOf ks w a len cap

def FitsW (w : World) : List Ck → List Value → Prop
  | [], [] => True
  | k :: ks, v :: vs => FitW w k v ∧ FitsW w ks vs
  | _, _ => False

theorem fitsW_nil {w : World} {l : List Value} (h : FitsW w [] l) : l = [] := by
  cases l with
  | nil => rfl
  | cons _ _ => exact h.elim

theorem fitsW_cons {w : World} {k : Ck} {ks : List Ck} {l : List Value} (h : FitsW w (k :: ks) l) : ∃ v r, l = v :: r ∧ FitW w k v ∧ FitsW w ks r := by
  cases l with
  | nil => exact h.elim
  | cons v r => exact ⟨v, r, rfl, h.1, h.2⟩

theorem fitsW_append {w : World} : ∀ {a b : List Ck} {x y : List Value}, FitsW w a x → FitsW w b y → FitsW w (a ++ b) (x ++ y)
  | [], _, x, _, h, k => by rw [fitsW_nil h]; exact k
  | _ :: _, _, _, _, h, k => by
    obtain ⟨v, r, rfl, h1, h2⟩ := fitsW_cons h
    exact ⟨h1, fitsW_append h2 k⟩

def flatLW (P : Program) (g : TypeId → Option (List Ck)) : Nat → List Field → Option (List Ck)
  | _, [] => some []
  | off, f :: r =>
    match g f.type with
    | none => none
    | some ks => if f.offset = off ∧ P.cellsOf f.type = ks.length then (flatLW P g (off + ks.length) r).map (ks ++ ·) else none

/-- The kinds of a type's cells. -/
def flatW (P : Program) : Nat → TypeId → Option (List Ck)
  | 0, _ => none
  | n + 1, t =>
    match P.underlying t with
    | some .bool => some [.b]
    | some (.int k) => some [.i k]
    | some .string => some [.s]
    | some (.slice e) => (flat P n e).bind fun ks => if P.cellsOf e = ks.length then some [.sl ks] else none
    | some (.struct fs) => (flatLW P (flatW P n) 0 fs.toList).bind fun ks => if P.cellsOf t = ks.length then some ks else none
    | _ => none

theorem flatLW_fits {w : World} {P : Program} {g : TypeId → Option (List Ck)} {cs : List Value} : ∀ (fs : List Field) (off : Nat) (ks : List Ck), flatLW P g off fs = some ks →
    (∀ f ∈ fs, ∀ ks', g f.type = some ks' → FitsW w ks' ((cs.drop f.offset).take (P.cellsOf f.type))) → FitsW w ks ((cs.drop off).take ks.length)
  | [], off, ks, h, _ => by
    simp only [flatLW, Option.some.injEq] at h
    subst h
    simp [FitsW]
  | f :: r, off, ks, h, hf => by
    simp only [flatLW] at h
    cases hg : g f.type with
    | none => simp [hg] at h
    | some ks' =>
      simp only [hg] at h
      split at h
      · rename_i hc
        obtain ⟨h1, h2⟩ := hc
        cases hr : flatLW P g (off + ks'.length) r with
        | none => simp [hr] at h
        | some ks'' =>
          simp only [hr, Option.map_some, Option.some.injEq] at h
          subst h
          have a1 := hf f (by simp) ks' hg
          rw [h1, h2] at a1
          have a2 := flatLW_fits r (off + ks'.length) ks'' hr (fun f' hm => hf f' (by simp [hm]))
          have e : (cs.drop off).take (ks' ++ ks'').length = (cs.drop off).take ks'.length ++ (cs.drop (off + ks'.length)).take ks''.length := by
            rw [List.length_append, List.take_add, List.drop_drop]
          rw [e]
          exact fitsW_append a1 a2
      · cases h

theorem flatW_fits {H : Type} {enc : TypeId × Value → H} {P : Program} {w : World} {base : Nat} {spare : Nat → Bool} {held : Bool} : ∀ (n : Nat) (t : TypeId) (ks : List Ck) (cs : List Value) (m : Nat) (x : DataW H × List MemPlace),
    flatW P n t = some ks → DataW.trod enc P w base spare held m t cs = some x → FitsW w ks cs
  | 0, _, _, _, _, _, h, _ => by simp [flatW] at h
  | n + 1, t, ks, cs, m, x, h, ht => by
    unfold flatW at h
    split at h
    · rename_i hu
      obtain ⟨b, rfl, _⟩ := DataW.trod_bool hu ht
      simp only [Option.some.injEq] at h
      subst h
      exact ⟨⟨b, rfl⟩, trivial⟩
    · rename_i k hu
      obtain ⟨i, rfl, _, hw⟩ := DataW.trod_int hu ht
      simp only [Option.some.injEq] at h
      subst h
      exact ⟨⟨i, rfl, hw⟩, trivial⟩
    · rename_i hu
      obtain ⟨s, rfl, hs⟩ := DataW.trod_string hu ht
      simp only [Option.some.injEq] at h
      subst h
      exact ⟨⟨s, rfl, by simpa using hs.2⟩, trivial⟩
    · rename_i e hu
      cases hk : flat P n e with
      | none => simp [hk] at h
      | some ks' =>
        simp only [hk, Option.bind_some] at h
        split at h
        · rename_i hc
          simp only [Option.some.injEq] at h
          subst h
          rcases Deep.open_slice hu ht with ⟨rfl, _⟩ | ⟨a, len, cap, m', n', D, Pl, rfl, _, hl, hm, hmm, _, hx⟩
          · exact ⟨⟨none, 0, 0, rfl, .inl ⟨rfl, rfl, rfl⟩⟩, trivial⟩
          · have hlm : len ≤ m' := by rw [hmm]; split <;> omega
            obtain ⟨V, hV⟩ := Deep.choose_lt (α := List Value) (n := len) (p := fun i v => Fits ks' v ∧ ∀ j, j < ks'.length → w.cell? (a.add (i * ks'.length + j)) = some (v.getD j undef)) (fun i hi => by
              obtain ⟨cs', h1, h2⟩ := hx i (by omega)
              obtain ⟨_, hlen, hcell⟩ := World.cells?_some h1
              refine ⟨cs', flat_fits n e ks' cs' n' _ hk h2, fun j hj => ?_⟩
              have := hcell j (by omega)
              rw [Deep.add_add, hc] at this
              rw [this]
              simp [List.getD, show j < cs'.length by omega])
            exact ⟨⟨some a, len, cap, rfl, .inr ⟨a, rfl, hl, hm, V, hV⟩⟩, trivial⟩
        · cases h
    · rename_i fs hu
      obtain ⟨xs, m', _, _, hl, hxl, hf⟩ := DataW.trod_struct hu ht
      cases hk : flatLW P (flatW P n) 0 fs.toList with
      | none => simp [hk] at h
      | some ks' =>
        simp only [hk, Option.bind_some] at h
        split at h
        · rename_i hc
          simp only [Option.some.injEq] at h
          subst h
          have := flatLW_fits (w := w) (cs := cs) fs.toList 0 ks' hk (fun f hm ks'' hg => by
            obtain ⟨i, hi⟩ := List.getElem?_of_mem hm
            have hi' : fs[i]? = some f := by simpa using hi
            have h1 := hf i f hi'
            have hlt : i < xs.length := by rw [hxl]; exact (Array.getElem?_eq_some_iff.1 hi').1
            rw [List.getElem?_eq_getElem hlt] at h1
            exact flatW_fits n f.type ks'' _ m' _ hg h1)
          rw [List.drop_zero, List.take_of_length_le (by omega)] at this
          exact this
        · cases h
    · cases h

/-- A struct by value. -/
theorem open_wide {H : Type} {enc : TypeId × Value → H} {P : Program} {w : World} {base : Nat} {spare : Nat → Bool} {held : Bool} {r : Reach} {b0 : Nat} {t : TypeId} {fs : Array Field} {v : Value} {d : DataW H} {p : List MemPlace} {ks : List Ck} (n : Nat) (hk : flatW P n t = some ks)
    (hs : P.underlying t = some (.struct fs)) (hv : Value.okWide P w r b0 t v) (h : DataW.Trod enc P w base spare held t v d p) : ∃ l, v = .agg l.toArray ∧ FitsW w ks l := by
  obtain ⟨cs, rfl, _⟩ := okWide_struct hs hv
  obtain ⟨m, hm⟩ := h
  exact ⟨cs.toList, by simp, flatW_fits n t ks _ m _ hk hm⟩

end Go.Proofs.Ytckfdbjjjgfbfaa
