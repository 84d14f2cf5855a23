/-
  Contracts over the program: boxes of processors; the model's registers and flags behind an operand that is used (l06Use).
-/
import Derived.Test.YtblchdmemhhcbaaStepNum
import Derived.Test.YtblchdmemhhcbaaAluE
import Derived.Test.YtblchdmemhhcbaaAluD
import Derived.Test.YtblchdmemhhcbaaSpan
namespace Go.Proofs.Ytblchdmemhhcbaa
set_option linter.unusedVariables false
set_option linter.unusedSimpArgs false
open Go.RowKit

abbrev zeroCpu : Array Value := #[.int .u8 0, .int .u8 0, .int .u8 0, .int .u8 0, .int .u16 0, .bool false, .bool false, .bool false, .bool false, .bool false, .bool false]

/-- Two boxes that were laid ahead of a call. -/
theorem two_call {w w1 : World} {cs zs : Array Value} {t u : TypeId} (hb : Below ((w.alloc (.cells cs t)).alloc (.cells zs u)).heap.size ((w.alloc (.cells cs t)).alloc (.cells zs u)) w1) :
    BoxN w1 w.heap.size t cs ∧ BoxN w1 (w.heap.size + 1) u zs ∧ Below w.heap.size w w1 := by
  refine ⟨((BoxN.new w t cs).below ((Below.refl _ _).alloc (Nat.le_refl _) _)).below hb, ?_, (((Below.refl _ _).alloc (Nat.le_refl _) _).alloc (by simp) _).trans (hb.mono (by simp; omega))⟩
  have := BoxN.new (w.alloc (.cells cs t)) u zs
  rw [World.size_alloc] at this
  exact this.below hb

/-- A box that was laid ahead of a call. -/
theorem one_call {w w1 : World} {cs : Array Value} {t : TypeId} (hb : Below (w.alloc (.cells cs t)).heap.size (w.alloc (.cells cs t)) w1) :
    BoxN w1 w.heap.size t cs ∧ Below w.heap.size w w1 :=
  ⟨(BoxN.new w t cs).below hb, ((Below.refl _ _).alloc (Nat.le_refl _) _).trans (hb.mono (by simp))⟩

theorem eleven {W : World} {B : Nat} {t : TypeId} {a0 a1 a2 a3 a4 a5 a6 a7 a8 a9 a10 : Value} (h : BoxN W B t #[a0, a1, a2, a3, a4, a5, a6, a7, a8, a9, a10]) :
    W.cell? ⟨B, 0, none⟩ = some a0 ∧ W.cell? ⟨B, 1, none⟩ = some a1 ∧ W.cell? ⟨B, 2, none⟩ = some a2 ∧ W.cell? ⟨B, 3, none⟩ = some a3 ∧ W.cell? ⟨B, 4, none⟩ = some a4 ∧ W.cell? ⟨B, 5, none⟩ = some a5 ∧ W.cell? ⟨B, 6, none⟩ = some a6 ∧ W.cell? ⟨B, 7, none⟩ = some a7 ∧ W.cell? ⟨B, 8, none⟩ = some a8 ∧ W.cell? ⟨B, 9, none⟩ = some a9 ∧ W.cell? ⟨B, 10, none⟩ = some a10 ∧ ∀ k, W.frozen? ⟨B, k, none⟩ = false :=
  ⟨h.cell 0 _ rfl, h.cell 1 _ rfl, h.cell 2 _ rfl, h.cell 3 _ rfl, h.cell 4 _ rfl, h.cell 5 _ rfl, h.cell 6 _ rfl, h.cell 7 _ rfl, h.cell 8 _ rfl, h.cell 9 _ rfl, h.cell 10 _ rfl, h.frozen⟩

theorem six {W : World} {B : Nat} {t : TypeId} {a0 a1 a2 a3 a4 a5 : Value} (h : BoxN W B t #[a0, a1, a2, a3, a4, a5]) :
    W.cell? ⟨B, 0, none⟩ = some a0 ∧ W.cell? ⟨B, 1, none⟩ = some a1 ∧ W.cell? ⟨B, 2, none⟩ = some a2 ∧ W.cell? ⟨B, 3, none⟩ = some a3 ∧ W.cell? ⟨B, 4, none⟩ = some a4 ∧ W.cell? ⟨B, 5, none⟩ = some a5 ∧ ∀ k, W.frozen? ⟨B, k, none⟩ = false :=
  ⟨h.cell 0 _ rfl, h.cell 1 _ rfl, h.cell 2 _ rfl, h.cell 3 _ rfl, h.cell 4 _ rfl, h.cell 5 _ rfl, h.frozen⟩

theorem nat_of {x : Int} (h : 0 ≤ x) : ∃ n : Nat, x = (n : Int) := ⟨x.toNat, (Int.toNat_of_nonneg h).symm⟩

end Go.Proofs.Ytblchdmemhhcbaa
