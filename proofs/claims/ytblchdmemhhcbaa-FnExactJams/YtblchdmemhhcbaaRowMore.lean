/-
  Rows of bytes: what serves every chapter: where a row lies, what is kept of it, a row of a call's own.
-/
import Derived.Test.YtblchdmemhhcbaaBytes
import Derived.RangeFuncBox
namespace Go.Proofs.Ytblchdmemhhcbaa
set_option linter.unusedVariables false
set_option linter.unusedSimpArgs false
open Go.RowKit

theorem OwnB.base {w : World} {b b' : Nat} {v : Value} {L : List Nat} (h : OwnB w b v L) (hb : b' ≤ b) : OwnB w b' v L := by
  refine ⟨h.1, h.2.1, ?_⟩
  rcases h.2.2 with hn | ⟨g, cap, cur, hv, hg, rest⟩
  · exact .inl hn
  · exact .inr ⟨g, cap, cur, hv, Nat.le_trans hb hg, rest⟩

theorem OwnB.cells {w : World} {base : Nat} {v : Value} {L : List Nat} (h : OwnB w base v L) (hl : 0 < L.length) : ∃ g cap, v = .slice (some ⟨g, 0, none⟩) L.length cap ∧ ∀ j u, (L.map u8V)[j]? = some u → w.cell? ((⟨g, 0, none⟩ : Addr).add j) = some u := by
  have h' := h.2
  rcases h.2.2 with ⟨_, h0⟩ | ⟨g, cap, cur, rfl, _⟩
  · omega
  · exact ⟨g, cap, rfl, World.ownsRow.cells h' (g := g) rfl⟩

theorem u8V_one (L : List Nat) : ∀ u ∈ L.map u8V, u.oneCell' = true := by
  intro u hu
  obtain ⟨x, _, rfl⟩ := List.mem_map.1 hu
  rfl

theorem bytes_app {A B : List Nat} (hA : ∀ i, i < A.length → A.getD i 0 < 256) (hB : ∀ i, i < B.length → B.getD i 0 < 256) : ∀ i, i < (A ++ B).length → (A ++ B).getD i 0 < 256 := by
  intro i hi
  rw [List.getD]
  by_cases h : i < A.length
  · rw [List.getElem?_append_left h]; exact hA i h
  · rw [List.getElem?_append_right (by omega)]
    rw [List.length_append] at hi
    exact hB (i - A.length) (by omega)

theorem RowB.byte' {w : World} {a : Option Addr} {L : List Nat} (h : RowB w a L) (i : Nat) : L.getD i 0 < 256 := by
  by_cases hi : i < L.length
  · exact h.1 i hi
  · simp [List.getD, List.getElem?_eq_none (by omega : L.length ≤ i)]

theorem rowNew (w : World) (L : List Nat) {a : Option Addr} {w0 : World} (h : RowB w0 a L) : RowB (w.alloc (.cells (L.map u8V).toArray 5)) (some ⟨w.heap.size, 0, none⟩) L := by
  refine ⟨h.1, fun _ => ⟨w.heap.size, 0, rfl, by simp, fun i hi => ?_⟩⟩
  rw [Nat.zero_add, World.cell?_alloc_at _ _ _ _ rfl]
  simp [List.getD, hi]

theorem rowNil (w : World) (a : Option Addr) : RowB w a (marksB 1 0) := ⟨fun i hi => by simp [marksB] at hi, fun h => by simp [marksB] at h⟩

theorem ownB_ne {w w' : World} {base g : Nat} {v : Value} {L : List Nat} (h : OwnB w base v L) (hg : w.grownBy w' (some g)) (hne : ∀ k, v.ownBlock = some k → k ≠ g) : OwnB w' base v L := by
  refine ⟨h.1, World.ownsRow.kept h.2 hg ?_⟩
  cases hv : v.ownBlock with
  | none => exact .inl rfl
  | some k => exact .inr (by simpa using hne k hv)

/-- From a slice of bytes that came in to a row. -/
theorem rowOf {w : World} {a : Option Addr} {len cap : Nat} {zs : List Int}
    (h : (a = none ∧ len = 0 ∧ cap = 0 ∧ zs = []) ∨ ∃ x, a = some x ∧ len ≤ cap ∧ cap ≤ maxLen ∧ zs.length = cap ∧ (∀ i, i < zs.length → w.cell? (x.add i) = some (.int .u8 (zs.getD i 0))) ∧ ∀ n ∈ zs, (Lit.int .u8 n).wf = true) :
    ∃ L : List Nat, L.length = len ∧ RowB w a L ∧ len ≤ cap := by
  rcases h with ⟨rfl, rfl, rfl, rfl⟩ | ⟨x, rfl, h1, h2, h3, h4, h5⟩
  · exact ⟨[], rfl, ⟨fun i hi => by simp at hi, fun h => by simp at h⟩, Nat.le_refl _⟩
  · refine ⟨(zs.take len).map Int.toNat, by simp; omega, ?_, h1⟩
    have hl : ((zs.take len).map Int.toNat).length = len := by simp; omega
    have hg : ∀ i, i < len → ((zs.take len).map Int.toNat).getD i 0 = (zs.getD i 0).toNat ∧ 0 ≤ zs.getD i 0 ∧ zs.getD i 0 ≤ 255 := fun i hi => by
      have hlt : i < zs.length := by omega
      have hmem : zs.getD i 0 ∈ zs := by rw [List.getD, List.getElem?_eq_getElem hlt]; exact List.getElem_mem _
      have hb : 0 ≤ zs.getD i 0 ∧ zs.getD i 0 ≤ 255 := by
        have := h5 _ hmem
        simpa [Lit.wf, IntKind.min, IntKind.max, IntKind.signed, IntKind.bits] using this
      exact ⟨by simp [List.getD, List.getElem?_take, hi, hlt], hb.1, hb.2⟩
    refine ⟨fun i hi => ?_, fun h0 => ?_⟩
    · rw [hl] at hi
      obtain ⟨e, b0, b1⟩ := hg i hi
      rw [e]; omega
    · rw [hl] at h0
      obtain ⟨b, off, spot⟩ := x
      have hc := h4 0 (by omega)
      have hspot : spot = none := by simpa [Addr.add] using World.cell?_spot hc
      subst hspot
      have hadd : ∀ i, (⟨b, off, none⟩ : Addr).add i = ⟨b, off + i, none⟩ := fun i => by unfold Addr.add; split <;> simp_all
      refine ⟨b, off, rfl, World.block_lt_of_cell? w _ (by rw [hadd] at hc; exact hc), fun i hi => ?_⟩
      rw [hl] at hi
      obtain ⟨e, b0, b1⟩ := hg i hi
      have hci := h4 i (by omega)
      rw [hadd] at hci
      rw [hci, e, u8V]
      congr 2
      omega

theorem ownNew (w : World) (L : List Nat) (hL : L.length ≤ 3) (hb : ∀ i, i < L.length → L.getD i 0 < 256) : OwnB (w.alloc (.cells (L.map u8V).toArray 5)) w.heap.size (.slice (some ⟨w.heap.size, 0, none⟩) L.length L.length) L :=
  ⟨hb, by simp, .inr ⟨w.heap.size, L.length, (L.map u8V).toArray, rfl, Nat.le_refl _, heap_alloc_new w _, Nat.le_refl _, by unfold maxLen; omega, by simp, by simp [List.take_of_length_le]⟩⟩

theorem ownNil (w : World) (B : Nat) : OwnB w B (.slice none 0 0) [] := ⟨fun i hi => by simp at hi, World.ownsRow_nil _ _ _ _⟩

theorem bstep {w a b : World} (h : Below w.heap.size w a) (k : Below a.heap.size a b) : Below w.heap.size w b := h.trans (k.mono h.size)

/-- A cell of an older block, as it was. -/
theorem cellKept {w w1 : World} {g o : Nat} {v : Value} (hb : Below w.heap.size w w1) (h : w.cell? ⟨g, o, none⟩ = some v) (hg : g < w.heap.size) : w1.cell? ⟨g, o, none⟩ = some v := by
  rw [hb.cell (p := ⟨g, o, none⟩) hg]; exact h

theorem emptyOwn {base B : Nat} (w : World) (hB : B = w.heap.size) (hb : base ≤ w.heap.size) : (w.alloc (.cells #[] 5)).ownsRow base 5 1 (.slice (some ⟨B, 0, none⟩) 0 0) 0 [] := by
  subst hB; exact World.ownsRow_made w #[] 0 hb (by decide) rfl

end Go.Proofs.Ytblchdmemhhcbaa
