/-
  Contracts over the program: chapter 2: plain sums, and N and Z.
-/
import Derived.Test.YtblchdmemhhcbaaRows
import Derived.Test.YtblchdmemhhcbaaAluNum
import Derived.WalkKit
import Derived.WalkSpells
import Derived.WalkLawsBesides
import Derived.OwnWalk
import Derived.Lib.Hide
import Derived.Below
import Derived.WalkSmall
import Derived.Laws.Pointers
import Derived.Deep.QuietTactic
import Derived.BigQuiet
import Derived.Deep.Draws
import Derived.RegionTactic
import Derived.ChangeAlike
import Derived.RangeFuncRecord
namespace Go.Proofs.Ytblchdmemhhcbaa
set_option linter.unusedVariables false
set_option linter.unusedSimpArgs false
open Go.RowKit

theorem bcell {W w1 : World} (hb : Below W.heap.size W w1) : (∀ b o, b < W.heap.size → w1.cell? ⟨b, o, none⟩ = W.cell? ⟨b, o, none⟩) ∧ (∀ b o, b < W.heap.size → w1.frozen? ⟨b, o, none⟩ = W.frozen? ⟨b, o, none⟩) :=
  ⟨fun b o h => hb.cell (p := ⟨b, o, none⟩) h, fun b o h => hb.frozen (p := ⟨b, o, none⟩) h⟩

/-- A box of six cells that was laid ahead of a call: each cell as it was. -/
theorem box6 {w w1 : World} {a0 a1 a2 a3 a4 a5 : Value} {t : TypeId} {o : Obj} (hb : Below ((w.alloc (.cells #[a0, a1, a2, a3, a4, a5] t)).alloc o).heap.size ((w.alloc (.cells #[a0, a1, a2, a3, a4, a5] t)).alloc o) w1) :
    w1.cell? ⟨w.heap.size, 0, none⟩ = some a0 ∧ w1.cell? ⟨w.heap.size, 1, none⟩ = some a1 ∧ w1.cell? ⟨w.heap.size, 2, none⟩ = some a2 ∧ w1.cell? ⟨w.heap.size, 3, none⟩ = some a3 ∧ w1.cell? ⟨w.heap.size, 4, none⟩ = some a4 ∧ w1.cell? ⟨w.heap.size, 5, none⟩ = some a5 ∧ w1.frozen? ⟨w.heap.size, 0, none⟩ = false ∧ w1.frozen? ⟨w.heap.size, 1, none⟩ = false ∧ w1.frozen? ⟨w.heap.size, 2, none⟩ = false ∧ w1.frozen? ⟨w.heap.size, 3, none⟩ = false ∧ w1.frozen? ⟨w.heap.size, 4, none⟩ = false ∧ w1.frozen? ⟨w.heap.size, 5, none⟩ = false := by
  obtain ⟨hc, hf⟩ := bcell hb
  refine ⟨?_, ?_, ?_, ?_, ?_, ?_, ?_, ?_, ?_, ?_, ?_, ?_⟩
  all_goals
    first
    | (rw [hc _ _ (by simp; omega)]; simp [go_sem]; done)
    | (rw [hf _ _ (by simp; omega)]; simp [go_sem]; done)

/-- A block of six cells is kept by what leaves all older blocks alone; its cells. -/
theorem keep6 {W w1 : World} {B : Nat} {a0 a1 a2 a3 a4 a5 : Value} {t : TypeId} (hb : Below W.heap.size W w1) (h : W.heap[B]? = some (.cells #[a0, a1, a2, a3, a4, a5] t (0, 0))) : w1.heap[B]? = some (.cells #[a0, a1, a2, a3, a4, a5] t (0, 0)) :=
  (hb.block B (Array.getElem?_eq_some_iff.1 h).1).trans h

theorem keep6_alloc {W : World} {B : Nat} {a0 a1 a2 a3 a4 a5 : Value} {t : TypeId} (o : Obj) (h : W.heap[B]? = some (.cells #[a0, a1, a2, a3, a4, a5] t (0, 0))) : (W.alloc o).heap[B]? = some (.cells #[a0, a1, a2, a3, a4, a5] t (0, 0)) :=
  (Below.heap_alloc W o B (Array.getElem?_eq_some_iff.1 h).1).trans h

theorem new6 (W : World) {a0 a1 a2 a3 a4 a5 : Value} {t : TypeId} : (W.alloc (.cells #[a0, a1, a2, a3, a4, a5] t)).heap[W.heap.size]? = some (.cells #[a0, a1, a2, a3, a4, a5] t (0, 0)) :=
  World.alloc_heap_new W _

theorem cells6 {w1 : World} {B : Nat} {a0 a1 a2 a3 a4 a5 : Value} {t : TypeId} (h : w1.heap[B]? = some (.cells #[a0, a1, a2, a3, a4, a5] t (0, 0))) :
    B < w1.heap.size ∧ w1.cell? ⟨B, 0, none⟩ = some a0 ∧ w1.cell? ⟨B, 1, none⟩ = some a1 ∧ w1.cell? ⟨B, 2, none⟩ = some a2 ∧ w1.cell? ⟨B, 3, none⟩ = some a3 ∧ w1.cell? ⟨B, 4, none⟩ = some a4 ∧ w1.cell? ⟨B, 5, none⟩ = some a5 := by
  refine ⟨(Array.getElem?_eq_some_iff.1 h).1, ?_, ?_, ?_, ?_, ?_, ?_⟩
  all_goals simp [World.cell?, h]

theorem ret_intA {k : IntKind} {a b : Int} (h : a = b) : Ending.returned (.int k a) = .returned (.int k b) := by rw [h]

theorem ret_bool {a b : Bool} (h : a = b) : Ending.returned (.bool a) = .returned (.bool b) := by rw [h]

theorem bitWhere_any (b : Int) (on : Bool) (w : World) :
    Calls Try.prog 70 #[.int .u8 b, .bool on] w fun e w' => e = .returned (.int .u8 (bI on b)) ∧ w = w' := by
  cases on
  all_goals
    go_enter Try.func70, Try.ntmps70
    go_wp2
    go_ret
    exact ⟨rfl, rfl⟩

theorem l02Bit_any (b : Int) (on : Bool) (w : World) :
    Calls Try.prog 53 #[.bool on, .int .i64 b] w fun e w' => e = .returned (.int .i64 (bI on b)) ∧ w = w' := by
  cases on
  all_goals
    go_enter Try.func53, Try.ntmps53
    go_wp2
    go_ret
    exact ⟨rfl, rfl⟩

end Go.Proofs.Ytblchdmemhhcbaa
