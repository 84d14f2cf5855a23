/-
  Rows of bytes for the laws of chapter 4: how long they are, and where they lie.
-/
import Derived.Test.YtffhjoldiicgdaaAsmE
namespace Go.Proofs.Ytffhjoldiicgdaa
set_option linter.unusedVariables false
set_option linter.unusedSimpArgs false
open Go.RowKit

theorem RowB.byte' {w : World} {a : Option Addr} {L : List Nat} (h : RowB w a L) (i : Nat) : L.getD i 0 < 256 := by
  by_cases hi : i < L.length
  · exact h.1 i hi
  · simp [List.getD, List.getElem?_eq_none (by omega : L.length ≤ i)]

theorem RowB.three' {w : World} {a : Option Addr} {L : List Nat} (h : RowB w a L) : Three w a L.length (L.getD 0 0) (L.getD 1 0) (L.getD 2 0) := by
  by_cases hl : L.length = 0
  · exact .inl hl
  · obtain ⟨g, o, rfl, hg, hc⟩ := h.2 (by omega)
    exact .inr ⟨g, o, rfl, hg, by simpa [u8V] using hc 0 (by omega), fun h2 => by simpa [u8V] using hc 1 (by omega), fun h3 => by simpa [u8V] using hc 2 (by omega)⟩

theorem rowNew (w : World) (L : List Nat) {a : Option Addr} {w0 : World} (h : RowB w0 a L) : RowB (w.alloc (.cells (L.map u8V).toArray 5)) (some ⟨w.heap.size, 0, none⟩) L := by
  refine ⟨h.1, fun _ => ⟨w.heap.size, 0, rfl, by simp, fun i hi => ?_⟩⟩
  rw [Nat.zero_add, World.cell?_alloc_at _ _ _ _ rfl]
  simp [List.getD, hi]

theorem rowNil (w : World) (a : Option Addr) : RowB w a (marksB 1 0) := ⟨fun i hi => by simp [marksB] at hi, fun h => by simp [marksB] at h⟩

theorem ownB_ne {w w' : World} {base g : Nat} {v : Value} {L : List Nat} (h : OwnB w base v L) (hg : w.grownBy w' (some g)) (hne : ∀ k, v.ownBlock = some k → k ≠ g) : OwnB w' base v L := by
  refine ⟨h.1, World.ownsRow.kept h.2 hg ?_⟩
  cases hv : v.ownBlock with
  | none => exact .inl rfl
  | some k => exact .inr (by simpa using hne k hv)

theorem readOp_small (s : ByteArray) (pc : Nat) : ((readOp s pc).getD []).length ≤ 1048576 := by
  cases h : readOp s pc with
  | none => simp
  | some l => have := (readOp_len h).2; simp; omega

theorem asmFrom_small (org : Nat) : ∀ (L : List ByteArray) (i : Nat) (out : List Nat), out.length ≤ 1024 → (asmFrom org L i out).1.length ≤ 1024
  | [], i, out, h => h
  | x :: r, i, out, h => by
    rw [asmFrom]
    split
    · exact asmFrom_small org r _ _ h
    · split
      · simp
      · split
        · simp
        · exact asmFrom_small org r _ _ (by rw [List.length_append]; omega)

theorem assemble_small (s : ByteArray) (org : Nat) : (assemble s org).1.length ≤ 1048576 := by
  unfold assemble
  split
  · simp
  · have := asmFrom_small org (linesOf s.data.toList) 0 [] (by simp)
    omega

/-- From a slice of bytes that came in to a row. -/
theorem rowOf {w : World} {a : Option Addr} {len cap : Nat} {zs : List Int}
    (h : (a = none ∧ len = 0 ∧ cap = 0 ∧ zs = []) ∨ ∃ x, a = some x ∧ len ≤ cap ∧ cap ≤ maxLen ∧ zs.length = cap ∧ (∀ i, i < zs.length → w.cell? (x.add i) = some (.int .u8 (zs.getD i 0))) ∧ ∀ n ∈ zs, (Lit.int .u8 n).wf = true) :
    ∃ L : List Nat, L.length = len ∧ RowB w a L ∧ len ≤ cap := by
  rcases h with ⟨rfl, rfl, rfl, rfl⟩ | ⟨x, rfl, h1, h2, h3, h4, h5⟩
  · exact ⟨[], rfl, ⟨fun i hi => by simp at hi, fun h => by simp at h⟩, Nat.le_refl _⟩
  · refine ⟨(zs.take len).map Int.toNat, by simp; omega, ?_, h1⟩
    have hl : ((zs.take len).map Int.toNat).length = len := by simp; omega
    have hg : ∀ i, i < len → ((zs.take len).map Int.toNat).getD i 0 = (zs.getD i 0).toNat ∧ 0 ≤ zs.getD i 0 ∧ zs.getD i 0 ≤ 255 := fun i hi => by
      have hlt : i < zs.length := by omega
      have hmem : zs.getD i 0 ∈ zs := by rw [List.getD, List.getElem?_eq_getElem hlt]; exact List.getElem_mem _
      have hb : 0 ≤ zs.getD i 0 ∧ zs.getD i 0 ≤ 255 := by
        have := h5 _ hmem
        simpa [Lit.wf, IntKind.min, IntKind.max, IntKind.signed, IntKind.bits] using this
      exact ⟨by simp [List.getD, List.getElem?_take, hi, hlt], hb.1, hb.2⟩
    refine ⟨fun i hi => ?_, fun h0 => ?_⟩
    · rw [hl] at hi
      obtain ⟨e, b0, b1⟩ := hg i hi
      rw [e]; omega
    · rw [hl] at h0
      obtain ⟨b, off, spot⟩ := x
      have hc := h4 0 (by omega)
      have hspot : spot = none := by simpa [Addr.add] using World.cell?_spot hc
      subst hspot
      have hadd : ∀ i, (⟨b, off, none⟩ : Addr).add i = ⟨b, off + i, none⟩ := fun i => by unfold Addr.add; split <;> simp_all
      refine ⟨b, off, rfl, World.block_lt_of_cell? w _ (by rw [hadd] at hc; exact hc), fun i hi => ?_⟩
      rw [hl] at hi
      obtain ⟨e, b0, b1⟩ := hg i hi
      have hci := h4 i (by omega)
      rw [hadd] at hci
      rw [hci, e, u8V]
      congr 2
      omega

end Go.Proofs.Ytffhjoldiicgdaa
