/-
  From a slice of bytes that came in, of whatever depth, to a row of bytes.
-/
import Derived.Test.YtblchdmemhhcbaaGreatRows
import Derived.WalkKit
import Derived.ProofKit
import Derived.OpenShut
import Derived.Deep.Slices
import Derived.Test.YtblchdmemhhcbaaGreatQSSpan
namespace Go.Proofs.YtblchdmemhhcbaaGreat
set_option linter.unusedVariables false
set_option linter.unusedSimpArgs false
open Go.ChangeShapes Go.WideShapes Go.RowKit

/-- A cell of a kind: a bool, or an integer that fits its kind. -/
def Fit : Option IntKind → Value → Prop
  | some k, v => ∃ n, v = .int k n ∧ (Lit.int k n).wf = true
  | none, v => ∃ b, v = .bool b

def Fits : List (Option IntKind) → List Value → Prop
  | [], [] => True
  | k :: ks, v :: vs => Fit k v ∧ Fits ks vs
  | _, _ => False

theorem fits_nil {l : List Value} (h : Fits [] l) : l = [] := by
  cases l with
  | nil => rfl
  | cons _ _ => exact h.elim

theorem fits_cons {k : Option IntKind} {ks : List (Option IntKind)} {l : List Value} (h : Fits (k :: ks) l) : ∃ v r, l = v :: r ∧ Fit k v ∧ Fits ks r := by
  cases l with
  | nil => exact h.elim
  | cons v r => exact ⟨v, r, rfl, h.1, h.2⟩

theorem fits_append : ∀ {a b : List (Option IntKind)} {x y : List Value}, Fits a x → Fits b y → Fits (a ++ b) (x ++ y)
  | [], _, x, _, h, k => by rw [fits_nil h]; exact k
  | _ :: _, _, _, _, h, k => by
    obtain ⟨v, r, rfl, h1, h2⟩ := fits_cons h
    exact ⟨h1, fits_append h2 k⟩

/-- The cells' kinds of a list of fields that lie one behind the other. -/
def flatL (P : Program) (g : TypeId → Option (List (Option IntKind))) : Nat → List Field → Option (List (Option IntKind))
  | _, [] => some []
  | off, f :: r =>
    match g f.type with
    | none => none
    | some ks => if f.offset = off ∧ P.cellsOf f.type = ks.length then (flatL P g (off + ks.length) r).map (ks ++ ·) else none

/-- The kinds of a plain type's cells. -/
def flat (P : Program) : Nat → TypeId → Option (List (Option IntKind))
  | 0, _ => none
  | n + 1, t =>
    match P.underlying t with
    | some .bool => some [none]
    | some (.int k) => some [some k]
    | some (.struct fs) => (flatL P (flat P n) 0 fs.toList).bind fun ks => if P.cellsOf t = ks.length then some ks else none
    | _ => none

theorem flatL_fits {P : Program} {g : TypeId → Option (List (Option IntKind))} {cs : List Value} : ∀ (fs : List Field) (off : Nat) (ks : List (Option IntKind)), flatL P g off fs = some ks →
    (∀ f ∈ fs, ∀ ks', g f.type = some ks' → Fits ks' ((cs.drop f.offset).take (P.cellsOf f.type))) → Fits ks ((cs.drop off).take ks.length)
  | [], off, ks, h, _ => by
    simp only [flatL, Option.some.injEq] at h
    subst h
    simp [Fits]
  | f :: r, off, ks, h, hf => by
    simp only [flatL] at h
    cases hg : g f.type with
    | none => simp [hg] at h
    | some ks' =>
      simp only [hg] at h
      split at h
      · rename_i hc
        obtain ⟨h1, h2⟩ := hc
        cases hr : flatL P g (off + ks'.length) r with
        | none => simp [hr] at h
        | some ks'' =>
          simp only [hr, Option.map_some, Option.some.injEq] at h
          subst h
          have a1 := hf f (by simp) ks' hg
          rw [h1, h2] at a1
          have a2 := flatL_fits r (off + ks'.length) ks'' hr (fun f' hm => hf f' (by simp [hm]))
          have e : (cs.drop off).take (ks' ++ ks'').length = (cs.drop off).take ks'.length ++ (cs.drop (off + ks'.length)).take ks''.length := by
            rw [List.length_append, List.take_add, List.drop_drop]
          rw [e]
          exact fits_append a1 a2
      · cases h

theorem flat_fits {H : Type} {enc : TypeId × Value → H} {P : Program} {w : World} {base : Nat} {spare : Nat → Bool} {held : Bool} : ∀ (n : Nat) (t : TypeId) (ks : List (Option IntKind)) (cs : List Value) (m : Nat) (x : DataW H × List MemPlace),
    flat P n t = some ks → DataW.trod enc P w base spare held m t cs = some x → Fits ks cs
  | 0, _, _, _, _, _, h, _ => by simp [flat] at h
  | n + 1, t, ks, cs, m, x, h, ht => by
    unfold flat at h
    split at h
    · rename_i hu
      obtain ⟨b, rfl, _⟩ := DataW.trod_bool hu ht
      simp only [Option.some.injEq] at h
      subst h
      exact ⟨⟨b, rfl⟩, trivial⟩
    · rename_i k hu
      obtain ⟨i, rfl, _, hw⟩ := DataW.trod_int hu ht
      simp only [Option.some.injEq] at h
      subst h
      exact ⟨⟨i, rfl, hw⟩, trivial⟩
    · rename_i fs hu
      obtain ⟨xs, m', _, _, hl, hxl, hf⟩ := DataW.trod_struct hu ht
      cases hk : flatL P (flat P n) 0 fs.toList with
      | none => simp [hk] at h
      | some ks' =>
        simp only [hk, Option.bind_some] at h
        split at h
        · rename_i hc
          simp only [Option.some.injEq] at h
          subst h
          have := flatL_fits (cs := cs) fs.toList 0 ks' hk (fun f hm ks'' hg => by
            obtain ⟨i, hi⟩ := List.getElem?_of_mem hm
            have hi' : fs[i]? = some f := by simpa using hi
            have h1 := hf i f hi'
            have hlt : i < xs.length := by rw [hxl]; exact (Array.getElem?_eq_some_iff.1 hi').1
            rw [List.getElem?_eq_getElem hlt] at h1
            exact flat_fits n f.type ks'' _ m' _ hg h1)
          rw [List.drop_zero, List.take_of_length_le (by omega)] at this
          exact this
        · cases h
    · cases h

theorem open_flat {H : Type} {enc : TypeId × Value → H} {P : Program} {w : World} {base : Nat} {spare : Nat → Bool} {held : Bool} {r : Reach} {b0 : Nat} {t : TypeId} {fs : Array Field} {v : Value} {d : DataW H} {p : List MemPlace} {ks : List (Option IntKind)} (n : Nat) (hk : flat P n t = some ks)
    (hs : P.underlying t = some (.struct fs)) (hv : Value.okWide P w r b0 t v) (h : DataW.Trod enc P w base spare held t v d p) : ∃ l, v = .agg l.toArray ∧ Fits ks l := by
  obtain ⟨cs, rfl, _⟩ := okWide_struct hs hv
  obtain ⟨m, hm⟩ := h
  exact ⟨cs.toList, by simp, flat_fits n t ks _ m _ hk hm⟩

end Go.Proofs.YtblchdmemhhcbaaGreat

namespace Go.Proofs.YtblchdmemhhcbaaGreat
set_option linter.unusedVariables false
set_option linter.unusedSimpArgs false
open Go.ChangeShapes Go.WideShapes Go.RowKit

/-- The kind of one cell: a bool, an integer, a text, or a slice whose elements have cells of these kinds. -/
inductive Ck
  | b
  | i (k : IntKind)
  | s
  | sl (ks : List (Option IntKind))

/-- A slice of plain elements that came in: nil, or a row of cells, element by element. -/
def RowOf (ks : List (Option IntKind)) (w : World) (a : Option Addr) (len cap : Nat) : Prop :=
  (a = none ∧ len = 0 ∧ cap = 0) ∨
  ∃ x, a = some x ∧ len ≤ cap ∧ cap ≤ maxLen ∧ ∃ V : Nat → List Value, ∀ i, i < len → Fits ks (V i) ∧ ∀ j, j < ks.length → w.cell? (x.add (i * ks.length + j)) = some ((V i).getD j undef)

def FitW (w : World) : Ck → Value → Prop
  | .b, v => ∃ b, v = .bool b
  | .i k, v => ∃ n, v = .int k n ∧ (Lit.int k n).wf = true
  | .s, v => ∃ s : ByteArray, v = .string s ∧ s.size ≤ maxLen
  | .sl ks, v => ∃ a len cap, v = .slice a len cap ∧ RowOf ks w a len cap

def FitsW (w : World) : List Ck → List Value → Prop
  | [], [] => True
  | k :: ks, v :: vs => FitW w k v ∧ FitsW w ks vs
  | _, _ => False

theorem fitsW_nil {w : World} {l : List Value} (h : FitsW w [] l) : l = [] := by
  cases l with
  | nil => rfl
  | cons _ _ => exact h.elim

theorem fitsW_cons {w : World} {k : Ck} {ks : List Ck} {l : List Value} (h : FitsW w (k :: ks) l) : ∃ v r, l = v :: r ∧ FitW w k v ∧ FitsW w ks r := by
  cases l with
  | nil => exact h.elim
  | cons v r => exact ⟨v, r, rfl, h.1, h.2⟩

theorem fitsW_append {w : World} : ∀ {a b : List Ck} {x y : List Value}, FitsW w a x → FitsW w b y → FitsW w (a ++ b) (x ++ y)
  | [], _, x, _, h, k => by rw [fitsW_nil h]; exact k
  | _ :: _, _, _, _, h, k => by
    obtain ⟨v, r, rfl, h1, h2⟩ := fitsW_cons h
    exact ⟨h1, fitsW_append h2 k⟩

def flatLW (P : Program) (g : TypeId → Option (List Ck)) : Nat → List Field → Option (List Ck)
  | _, [] => some []
  | off, f :: r =>
    match g f.type with
    | none => none
    | some ks => if f.offset = off ∧ P.cellsOf f.type = ks.length then (flatLW P g (off + ks.length) r).map (ks ++ ·) else none

/-- The kinds of a type's cells. -/
def flatW (P : Program) : Nat → TypeId → Option (List Ck)
  | 0, _ => none
  | n + 1, t =>
    match P.underlying t with
    | some .bool => some [.b]
    | some (.int k) => some [.i k]
    | some .string => some [.s]
    | some (.slice e) => (flat P n e).bind fun ks => if P.cellsOf e = ks.length then some [.sl ks] else none
    | some (.struct fs) => (flatLW P (flatW P n) 0 fs.toList).bind fun ks => if P.cellsOf t = ks.length then some ks else none
    | _ => none

theorem flatLW_fits {w : World} {P : Program} {g : TypeId → Option (List Ck)} {cs : List Value} : ∀ (fs : List Field) (off : Nat) (ks : List Ck), flatLW P g off fs = some ks →
    (∀ f ∈ fs, ∀ ks', g f.type = some ks' → FitsW w ks' ((cs.drop f.offset).take (P.cellsOf f.type))) → FitsW w ks ((cs.drop off).take ks.length)
  | [], off, ks, h, _ => by
    simp only [flatLW, Option.some.injEq] at h
    subst h
    simp [FitsW]
  | f :: r, off, ks, h, hf => by
    simp only [flatLW] at h
    cases hg : g f.type with
    | none => simp [hg] at h
    | some ks' =>
      simp only [hg] at h
      split at h
      · rename_i hc
        obtain ⟨h1, h2⟩ := hc
        cases hr : flatLW P g (off + ks'.length) r with
        | none => simp [hr] at h
        | some ks'' =>
          simp only [hr, Option.map_some, Option.some.injEq] at h
          subst h
          have a1 := hf f (by simp) ks' hg
          rw [h1, h2] at a1
          have a2 := flatLW_fits r (off + ks'.length) ks'' hr (fun f' hm => hf f' (by simp [hm]))
          have e : (cs.drop off).take (ks' ++ ks'').length = (cs.drop off).take ks'.length ++ (cs.drop (off + ks'.length)).take ks''.length := by
            rw [List.length_append, List.take_add, List.drop_drop]
          rw [e]
          exact fitsW_append a1 a2
      · cases h

theorem flatW_fits {H : Type} {enc : TypeId × Value → H} {P : Program} {w : World} {base : Nat} {spare : Nat → Bool} {held : Bool} : ∀ (n : Nat) (t : TypeId) (ks : List Ck) (cs : List Value) (m : Nat) (x : DataW H × List MemPlace),
    flatW P n t = some ks → DataW.trod enc P w base spare held m t cs = some x → FitsW w ks cs
  | 0, _, _, _, _, _, h, _ => by simp [flatW] at h
  | n + 1, t, ks, cs, m, x, h, ht => by
    unfold flatW at h
    split at h
    · rename_i hu
      obtain ⟨b, rfl, _⟩ := DataW.trod_bool hu ht
      simp only [Option.some.injEq] at h
      subst h
      exact ⟨⟨b, rfl⟩, trivial⟩
    · rename_i k hu
      obtain ⟨i, rfl, _, hw⟩ := DataW.trod_int hu ht
      simp only [Option.some.injEq] at h
      subst h
      exact ⟨⟨i, rfl, hw⟩, trivial⟩
    · rename_i hu
      obtain ⟨s, rfl, hs⟩ := DataW.trod_string hu ht
      simp only [Option.some.injEq] at h
      subst h
      exact ⟨⟨s, rfl, by simpa using hs.2⟩, trivial⟩
    · rename_i e hu
      cases hk : flat P n e with
      | none => simp [hk] at h
      | some ks' =>
        simp only [hk, Option.bind_some] at h
        split at h
        · rename_i hc
          simp only [Option.some.injEq] at h
          subst h
          rcases Deep.open_slice hu ht with ⟨rfl, _⟩ | ⟨a, len, cap, m', n', D, Pl, rfl, _, hl, hm, hmm, _, hx⟩
          · exact ⟨⟨none, 0, 0, rfl, .inl ⟨rfl, rfl, rfl⟩⟩, trivial⟩
          · have hlm : len ≤ m' := by rw [hmm]; split <;> omega
            obtain ⟨V, hV⟩ := Deep.choose_lt (α := List Value) (n := len) (p := fun i v => Fits ks' v ∧ ∀ j, j < ks'.length → w.cell? (a.add (i * ks'.length + j)) = some (v.getD j undef)) (fun i hi => by
              obtain ⟨cs', h1, h2⟩ := hx i (by omega)
              obtain ⟨_, hlen, hcell⟩ := World.cells?_some h1
              refine ⟨cs', flat_fits n e ks' cs' n' _ hk h2, fun j hj => ?_⟩
              have := hcell j (by omega)
              rw [Deep.add_add, hc] at this
              rw [this]
              simp [List.getD, show j < cs'.length by omega])
            exact ⟨⟨some a, len, cap, rfl, .inr ⟨a, rfl, hl, hm, V, hV⟩⟩, trivial⟩
        · cases h
    · rename_i fs hu
      obtain ⟨xs, m', _, _, hl, hxl, hf⟩ := DataW.trod_struct hu ht
      cases hk : flatLW P (flatW P n) 0 fs.toList with
      | none => simp [hk] at h
      | some ks' =>
        simp only [hk, Option.bind_some] at h
        split at h
        · rename_i hc
          simp only [Option.some.injEq] at h
          subst h
          have := flatLW_fits (w := w) (cs := cs) fs.toList 0 ks' hk (fun f hm ks'' hg => by
            obtain ⟨i, hi⟩ := List.getElem?_of_mem hm
            have hi' : fs[i]? = some f := by simpa using hi
            have h1 := hf i f hi'
            have hlt : i < xs.length := by rw [hxl]; exact (Array.getElem?_eq_some_iff.1 hi').1
            rw [List.getElem?_eq_getElem hlt] at h1
            exact flatW_fits n f.type ks'' _ m' _ hg h1)
          rw [List.drop_zero, List.take_of_length_le (by omega)] at this
          exact this
        · cases h
    · cases h

/-- A struct by value. -/
theorem open_wide {H : Type} {enc : TypeId × Value → H} {P : Program} {w : World} {base : Nat} {spare : Nat → Bool} {held : Bool} {r : Reach} {b0 : Nat} {t : TypeId} {fs : Array Field} {v : Value} {d : DataW H} {p : List MemPlace} {ks : List Ck} (n : Nat) (hk : flatW P n t = some ks)
    (hs : P.underlying t = some (.struct fs)) (hv : Value.okWide P w r b0 t v) (h : DataW.Trod enc P w base spare held t v d p) : ∃ l, v = .agg l.toArray ∧ FitsW w ks l := by
  obtain ⟨cs, rfl, _⟩ := okWide_struct hs hv
  obtain ⟨m, hm⟩ := h
  exact ⟨cs.toList, by simp, flatW_fits n t ks _ m _ hk hm⟩

end Go.Proofs.YtblchdmemhhcbaaGreat

namespace Go.Proofs.YtblchdmemhhcbaaGreat
set_option linter.unusedVariables false
set_option linter.unusedSimpArgs false
open Go.RowKit

theorem rowOfB {w : World} {a : Option Addr} {len cap : Nat} (h : RowOf [some .u8] w a len cap) : ∃ L : List Nat, L.length = len ∧ RowB w a L ∧ len ≤ cap ∧ cap ≤ maxLen := by
  rcases h with ⟨rfl, rfl, rfl⟩ | ⟨x, rfl, h1, h2, V, hV⟩
  · exact ⟨[], rfl, ⟨fun i hi => by simp at hi, fun h => by simp at h⟩, Nat.le_refl _, by unfold maxLen; omega⟩
  · have hone : ∀ i, i < len → ∃ n : Nat, n < 256 ∧ w.cell? (x.add i) = some (.int .u8 (n : Int)) := fun i hi => by
      obtain ⟨f, hc⟩ := hV i hi
      obtain ⟨v, r, hv, ⟨n, rfl, hw⟩, _⟩ := fits_cons f
      have hb := bounds_u8 hw
      have := hc 0 (by simp)
      rw [hv] at this
      refine ⟨n.toNat, by omega, ?_⟩
      rw [show ((n.toNat : Nat) : Int) = n by omega]
      simpa using this
    obtain ⟨f, hf⟩ := Deep.choose_lt hone
    have hgd : ∀ i, i < len → ((List.range len).map f).getD i 0 = f i := fun i hi => by simp [List.getD, hi]
    refine ⟨(List.range len).map f, by simp, ⟨fun i hi => ?_, fun h0 => ?_⟩, h1, h2⟩
    · have hi' : i < len := by simpa using hi
      rw [hgd i hi']; exact (hf i hi').1
    · have h0' : 0 < len := by simpa using h0
      obtain ⟨b, off, spot⟩ := x
      have hc := (hf 0 h0').2
      have hspot : spot = none := by simpa [Addr.add] using World.cell?_spot hc
      subst hspot
      have hadd : ∀ i, (⟨b, off, none⟩ : Addr).add i = ⟨b, off + i, none⟩ := fun i => by unfold Addr.add; split <;> simp_all
      refine ⟨b, off, rfl, World.block_lt_of_cell? w _ (by rw [hadd] at hc; exact hc), fun i hi => ?_⟩
      have hi' : i < len := by simpa using hi
      have hci := (hf i hi').2
      rw [hadd] at hci
      rw [hci, hgd i hi', u8V]

end Go.Proofs.YtblchdmemhhcbaaGreat
