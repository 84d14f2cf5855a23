/-
  A call that leaves all older blocks alone keeps what a region held: a box's cells.
-/
import Derived.Test.YtddfgplgjjkdcaaAluE
import Derived.Deep.RegionHeld3
import Derived.RangeFuncBox
namespace Go.Proofs.Ytddfgplgjjkdcaa
open Go.RowKit

/-- A call that leaves all older blocks alone keeps a box's cells. -/
theorem keepS {P : Program} {f : FuncId} {args : Array Value} {w : World} {v : Ending} {B : Nat} {a0 a1 a2 a3 a4 a5 : Value} (h : Calls P f args w fun e w' => e = v ∧ Below w.heap.size w w') (hS : w.cell? ⟨B, 0, none⟩ = some a0 ∧ w.cell? ⟨B, 1, none⟩ = some a1 ∧ w.cell? ⟨B, 2, none⟩ = some a2 ∧ w.cell? ⟨B, 3, none⟩ = some a3 ∧ w.cell? ⟨B, 4, none⟩ = some a4 ∧ w.cell? ⟨B, 5, none⟩ = some a5) :
    Calls P f args w fun e w' => e = v ∧ Below w.heap.size w w' ∧ w'.cell? ⟨B, 0, none⟩ = some a0 ∧ w'.cell? ⟨B, 1, none⟩ = some a1 ∧ w'.cell? ⟨B, 2, none⟩ = some a2 ∧ w'.cell? ⟨B, 3, none⟩ = some a3 ∧ w'.cell? ⟨B, 4, none⟩ = some a4 ∧ w'.cell? ⟨B, 5, none⟩ = some a5 := by
  refine h.mono fun e w' hh => ?_
  have hlt : B < w.heap.size := World.block_lt_of_cell? w _ hS.1
  obtain ⟨hc, _⟩ := bcell hh.2
  obtain ⟨s0, s1, s2, s3, s4, s5⟩ := hS
  exact ⟨hh.1, hh.2, by rw [hc _ _ hlt]; exact s0, by rw [hc _ _ hlt]; exact s1, by rw [hc _ _ hlt]; exact s2, by rw [hc _ _ hlt]; exact s3, by rw [hc _ _ hlt]; exact s4, by rw [hc _ _ hlt]; exact s5⟩

theorem keepS7 {P : Program} {f : FuncId} {args : Array Value} {w : World} {v : Ending} {B : Nat} {a0 a1 a2 a3 a4 a5 : Value} (h : Calls P f args w fun e w' => e = v ∧ Below w.heap.size w w') (hS : B < w.heap.size ∧ w.cell? ⟨B, 0, none⟩ = some a0 ∧ w.cell? ⟨B, 1, none⟩ = some a1 ∧ w.cell? ⟨B, 2, none⟩ = some a2 ∧ w.cell? ⟨B, 3, none⟩ = some a3 ∧ w.cell? ⟨B, 4, none⟩ = some a4 ∧ w.cell? ⟨B, 5, none⟩ = some a5) :
    Calls P f args w fun e w' => e = v ∧ Below w.heap.size w w' ∧ B < w'.heap.size ∧ w'.cell? ⟨B, 0, none⟩ = some a0 ∧ w'.cell? ⟨B, 1, none⟩ = some a1 ∧ w'.cell? ⟨B, 2, none⟩ = some a2 ∧ w'.cell? ⟨B, 3, none⟩ = some a3 ∧ w'.cell? ⟨B, 4, none⟩ = some a4 ∧ w'.cell? ⟨B, 5, none⟩ = some a5 :=
  (keepS h hS.2).mono fun _ _ hh => ⟨hh.1, hh.2.1, Nat.lt_of_lt_of_le hS.1 hh.2.1.size, hh.2.2⟩

theorem six_alloc {w : World} {B : Nat} {a0 a1 a2 a3 a4 a5 : Value} (o : Obj) (h : w.cell? ⟨B, 0, none⟩ = some a0 ∧ w.cell? ⟨B, 1, none⟩ = some a1 ∧ w.cell? ⟨B, 2, none⟩ = some a2 ∧ w.cell? ⟨B, 3, none⟩ = some a3 ∧ w.cell? ⟨B, 4, none⟩ = some a4 ∧ w.cell? ⟨B, 5, none⟩ = some a5) : (w.alloc o).cell? ⟨B, 0, none⟩ = some a0 ∧ (w.alloc o).cell? ⟨B, 1, none⟩ = some a1 ∧ (w.alloc o).cell? ⟨B, 2, none⟩ = some a2 ∧ (w.alloc o).cell? ⟨B, 3, none⟩ = some a3 ∧ (w.alloc o).cell? ⟨B, 4, none⟩ = some a4 ∧ (w.alloc o).cell? ⟨B, 5, none⟩ = some a5 := by
  have hlt : B < w.heap.size := World.block_lt_of_cell? w _ h.1
  have hc : ∀ k, (w.alloc o).cell? ⟨B, k, none⟩ = w.cell? ⟨B, k, none⟩ := fun k => ((Below.refl w.heap.size w).alloc (Nat.le_refl _) o).cell (p := ⟨B, k, none⟩) hlt
  simp only [hc]
  exact h

theorem six_drew {w : World} {B : Nat} {a0 a1 a2 a3 a4 a5 : Value} (h : w.cell? ⟨B, 0, none⟩ = some a0 ∧ w.cell? ⟨B, 1, none⟩ = some a1 ∧ w.cell? ⟨B, 2, none⟩ = some a2 ∧ w.cell? ⟨B, 3, none⟩ = some a3 ∧ w.cell? ⟨B, 4, none⟩ = some a4 ∧ w.cell? ⟨B, 5, none⟩ = some a5) : w.drew.cell? ⟨B, 0, none⟩ = some a0 ∧ w.drew.cell? ⟨B, 1, none⟩ = some a1 ∧ w.drew.cell? ⟨B, 2, none⟩ = some a2 ∧ w.drew.cell? ⟨B, 3, none⟩ = some a3 ∧ w.drew.cell? ⟨B, 4, none⟩ = some a4 ∧ w.drew.cell? ⟨B, 5, none⟩ = some a5 := h

end Go.Proofs.Ytddfgplgjjkdcaa
