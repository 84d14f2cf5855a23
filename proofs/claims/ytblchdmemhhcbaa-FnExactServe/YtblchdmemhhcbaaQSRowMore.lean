/-
  Rows of bytes: what serves every chapter: where a row lies, what is kept of it, a row of a call's own.
-/
import Derived.Test.YtblchdmemhhcbaaQSBytes
import Derived.RangeFuncBox
namespace Go.Proofs.Ytblchdmemhhcbaa
set_option linter.unusedVariables false
set_option linter.unusedSimpArgs false
open Go.RowKit

theorem OwnB.base {w : World} {b b' : Nat} {v : Value} {L : List Nat} (h : OwnB w b v L) (hb : b' ≤ b) : OwnB w b' v L := by
  refine ⟨h.1, h.2.1, ?_⟩
  rcases h.2.2 with hn | ⟨g, cap, cur, hv, hg, rest⟩
  · exact .inl hn
  · exact .inr ⟨g, cap, cur, hv, Nat.le_trans hb hg, rest⟩

theorem OwnB.cells {w : World} {base : Nat} {v : Value} {L : List Nat} (h : OwnB w base v L) (hl : 0 < L.length) : ∃ g cap, v = .slice (some ⟨g, 0, none⟩) L.length cap ∧ ∀ j u, (L.map u8V)[j]? = some u → w.cell? ((⟨g, 0, none⟩ : Addr).add j) = some u := by
  have h' := h.2
  rcases h.2.2 with ⟨_, h0⟩ | ⟨g, cap, cur, rfl, _⟩
  · omega
  · exact ⟨g, cap, rfl, World.ownsRow.cells h' (g := g) rfl⟩

theorem u8V_one (L : List Nat) : ∀ u ∈ L.map u8V, u.oneCell' = true := by
  intro u hu
  obtain ⟨x, _, rfl⟩ := List.mem_map.1 hu
  rfl

theorem RowB.byte' {w : World} {a : Option Addr} {L : List Nat} (h : RowB w a L) (i : Nat) : L.getD i 0 < 256 := by
  by_cases hi : i < L.length
  · exact h.1 i hi
  · simp [List.getD, List.getElem?_eq_none (by omega : L.length ≤ i)]

theorem ownB_ne {w w' : World} {base g : Nat} {v : Value} {L : List Nat} (h : OwnB w base v L) (hg : w.grownBy w' (some g)) (hne : ∀ k, v.ownBlock = some k → k ≠ g) : OwnB w' base v L := by
  refine ⟨h.1, World.ownsRow.kept h.2 hg ?_⟩
  cases hv : v.ownBlock with
  | none => exact .inl rfl
  | some k => exact .inr (by simpa using hne k hv)

theorem ownNew (w : World) (L : List Nat) (hL : L.length ≤ 3) (hb : ∀ i, i < L.length → L.getD i 0 < 256) : OwnB (w.alloc (.cells (L.map u8V).toArray 5)) w.heap.size (.slice (some ⟨w.heap.size, 0, none⟩) L.length L.length) L :=
  ⟨hb, by simp, .inr ⟨w.heap.size, L.length, (L.map u8V).toArray, rfl, Nat.le_refl _, heap_alloc_new w _, Nat.le_refl _, by unfold maxLen; omega, by simp, by simp [List.take_of_length_le]⟩⟩

theorem ownNil (w : World) (B : Nat) : OwnB w B (.slice none 0 0) [] := ⟨fun i hi => by simp at hi, World.ownsRow_nil _ _ _ _⟩

theorem bstep {w a b : World} (h : Below w.heap.size w a) (k : Below a.heap.size a b) : Below w.heap.size w b := h.trans (k.mono h.size)

/-- A cell of an older block, as it was. -/
theorem cellKept {w w1 : World} {g o : Nat} {v : Value} (hb : Below w.heap.size w w1) (h : w.cell? ⟨g, o, none⟩ = some v) (hg : g < w.heap.size) : w1.cell? ⟨g, o, none⟩ = some v := by
  rw [hb.cell (p := ⟨g, o, none⟩) hg]; exact h

theorem emptyOwn {base B : Nat} (w : World) (hB : B = w.heap.size) (hb : base ≤ w.heap.size) : (w.alloc (.cells #[] 5)).ownsRow base 5 1 (.slice (some ⟨B, 0, none⟩) 0 0) 0 [] := by
  subst hB; exact World.ownsRow_made w #[] 0 hb (by decide) rfl

end Go.Proofs.Ytblchdmemhhcbaa
