/-
  Contracts over the program: chapter 2: plain sums, and N and Z.
-/
import Derived.Test.YtddfgplgjjkdcaaRows
import Derived.Test.YtddfgplgjjkdcaaAluNum
import Derived.WalkKit
import Derived.WalkSpells
import Derived.WalkLawsBesides
import Derived.OwnWalk
import Derived.Lib.Hide
import Derived.Below
import Derived.WalkSmall
import Derived.Laws.Pointers
import Derived.Deep.QuietTactic
import Derived.BigQuiet
import Derived.Deep.Draws
import Derived.RegionTactic
import Derived.ChangeAlike
import Derived.RangeFuncRecord
namespace Go.Proofs.Ytddfgplgjjkdcaa
open Go.RowKit

theorem bcell {W w1 : World} (hb : Below W.heap.size W w1) : (∀ b o, b < W.heap.size → w1.cell? ⟨b, o, none⟩ = W.cell? ⟨b, o, none⟩) ∧ (∀ b o, b < W.heap.size → w1.frozen? ⟨b, o, none⟩ = W.frozen? ⟨b, o, none⟩) :=
  ⟨fun b o h => hb.cell (p := ⟨b, o, none⟩) h, fun b o h => hb.frozen (p := ⟨b, o, none⟩) h⟩

/-- A box of six cells that was laid ahead of a call: each cell as it was. -/
theorem box6 {w w1 : World} {a0 a1 a2 a3 a4 a5 : Value} {t : TypeId} {o : Obj} (hb : Below ((w.alloc (.cells #[a0, a1, a2, a3, a4, a5] t)).alloc o).heap.size ((w.alloc (.cells #[a0, a1, a2, a3, a4, a5] t)).alloc o) w1) :
    w1.cell? ⟨w.heap.size, 0, none⟩ = some a0 ∧ w1.cell? ⟨w.heap.size, 1, none⟩ = some a1 ∧ w1.cell? ⟨w.heap.size, 2, none⟩ = some a2 ∧ w1.cell? ⟨w.heap.size, 3, none⟩ = some a3 ∧ w1.cell? ⟨w.heap.size, 4, none⟩ = some a4 ∧ w1.cell? ⟨w.heap.size, 5, none⟩ = some a5 ∧ w1.frozen? ⟨w.heap.size, 0, none⟩ = false ∧ w1.frozen? ⟨w.heap.size, 1, none⟩ = false ∧ w1.frozen? ⟨w.heap.size, 2, none⟩ = false ∧ w1.frozen? ⟨w.heap.size, 3, none⟩ = false ∧ w1.frozen? ⟨w.heap.size, 4, none⟩ = false ∧ w1.frozen? ⟨w.heap.size, 5, none⟩ = false := by
  obtain ⟨hc, hf⟩ := bcell hb
  refine ⟨?_, ?_, ?_, ?_, ?_, ?_, ?_, ?_, ?_, ?_, ?_, ?_⟩
  all_goals
    first
    | (rw [hc _ _ (by simp; omega)]; simp [go_sem]; done)
    | (rw [hf _ _ (by simp; omega)]; simp [go_sem]; done)

/-- A block of six cells is kept by what leaves all older blocks alone; its cells. -/
theorem keep6 {W w1 : World} {B : Nat} {a0 a1 a2 a3 a4 a5 : Value} {t : TypeId} (hb : Below W.heap.size W w1) (h : W.heap[B]? = some (.cells #[a0, a1, a2, a3, a4, a5] t (0, 0))) : w1.heap[B]? = some (.cells #[a0, a1, a2, a3, a4, a5] t (0, 0)) :=
  (hb.block B (Array.getElem?_eq_some_iff.1 h).1).trans h

theorem keep6_alloc {W : World} {B : Nat} {a0 a1 a2 a3 a4 a5 : Value} {t : TypeId} (o : Obj) (h : W.heap[B]? = some (.cells #[a0, a1, a2, a3, a4, a5] t (0, 0))) : (W.alloc o).heap[B]? = some (.cells #[a0, a1, a2, a3, a4, a5] t (0, 0)) :=
  (Below.heap_alloc W o B (Array.getElem?_eq_some_iff.1 h).1).trans h

theorem new6 (W : World) {a0 a1 a2 a3 a4 a5 : Value} {t : TypeId} : (W.alloc (.cells #[a0, a1, a2, a3, a4, a5] t)).heap[W.heap.size]? = some (.cells #[a0, a1, a2, a3, a4, a5] t (0, 0)) :=
  World.alloc_heap_new W _

theorem cells6 {w1 : World} {B : Nat} {a0 a1 a2 a3 a4 a5 : Value} {t : TypeId} (h : w1.heap[B]? = some (.cells #[a0, a1, a2, a3, a4, a5] t (0, 0))) :
    B < w1.heap.size ∧ w1.cell? ⟨B, 0, none⟩ = some a0 ∧ w1.cell? ⟨B, 1, none⟩ = some a1 ∧ w1.cell? ⟨B, 2, none⟩ = some a2 ∧ w1.cell? ⟨B, 3, none⟩ = some a3 ∧ w1.cell? ⟨B, 4, none⟩ = some a4 ∧ w1.cell? ⟨B, 5, none⟩ = some a5 := by
  refine ⟨(Array.getElem?_eq_some_iff.1 h).1, ?_, ?_, ?_, ?_, ?_, ?_⟩
  all_goals simp [World.cell?, h]

theorem ret_int {k : IntKind} {a b : Int} (h : a = b) : Ending.returned (.int k a) = .returned (.int k b) := by rw [h]

theorem ret_bool {a b : Bool} (h : a = b) : Ending.returned (.bool a) = .returned (.bool b) := by rw [h]

theorem hasBit_any (b m : Int) (w : World) :
    Calls Try.prog 37 #[.int .u8 b, .int .u8 m] w fun e w' => e = .returned (.bool (hasB b m)) ∧ w = w' := by
  go_enter Try.func37, Try.ntmps37
  go_wp2
  go_ret
  exact ⟨rfl, rfl⟩

theorem bitWhere_any (b : Int) (on : Bool) (w : World) :
    Calls Try.prog 36 #[.int .u8 b, .bool on] w fun e w' => e = .returned (.int .u8 (bI on b)) ∧ w = w' := by
  cases on
  all_goals
    go_enter Try.func36, Try.ntmps36
    go_wp2
    go_ret
    exact ⟨rfl, rfl⟩

theorem l02Bit_any (b : Int) (on : Bool) (w : World) :
    Calls Try.prog 38 #[.bool on, .int .i64 b] w fun e w' => e = .returned (.int .i64 (bI on b)) ∧ w = w' := by
  cases on
  all_goals
    go_enter Try.func38, Try.ntmps38
    go_wp2
    go_ret
    exact ⟨rfl, rfl⟩

theorem overflows_any (a b s : Int) (w : World) (h0 : 0 ≤ a) (h1 : a ≤ 255) (h2 : 0 ≤ b) (h3 : b ≤ 255) (h4 : 0 ≤ s) (h5 : s ≤ 255) :
    Calls Try.prog 42 #[.int .u8 a, .int .u8 b, .int .u8 s] w fun e w' => e = .returned (.bool (over a b s)) ∧ w = w' := by
  go_enter Try.func42, Try.ntmps42
  go_wp2_with fail
  refine (hasBit_any _ _ _).mono ?_
  rintro e w' ⟨rfl, rfl⟩
  rw [over_bits a b s h0 h1 h2 h3 h4 h5]
  go_wp2
  go_ret
  exact ⟨rfl, rfl⟩

theorem implNZ_any (b : Int) (n v d i z c : Bool) (w : World) (h0 : 0 ≤ b) (h1 : b ≤ 255) :
    Calls Try.prog 26 #[.int .u8 b, .agg #[.bool n, .bool v, .bool d, .bool i, .bool z, .bool c]] w fun e w' => e = .returned (.agg #[.bool (bit7 b), .bool v, .bool d, .bool i, .bool (isZ b), .bool c]) ∧ Below w.heap.size w w' := by
  go_enter Try.func26, Try.ntmps26
  go_wp2_with fail
  refine (hasBit_any _ _ _).mono ?_
  rintro e w' ⟨rfl, rfl⟩
  rw [hasB_128 b h0 h1]
  go_wp2
  refine bodyPost_ret (v := .agg #[.bool (bit7 b), .bool v, .bool d, .bool i, .bool (isZ b), .bool c]) (by simp [results, Try.results26, go_sem, isZ]) rfl ⟨rfl, ?_⟩
  exact ((Below.refl _ _).alloc (Nat.le_refl _) _).alloc (by simp) _

theorem addBinary_any (a b : Int) (n v d i z c : Bool) (w : World) (h0 : 0 ≤ a) (h1 : a ≤ 255) (h2 : 0 ≤ b) (h3 : b ≤ 255) :
    Calls Try.prog 32 #[.int .u8 a, .int .u8 b, .agg #[.bool n, .bool v, .bool d, .bool i, .bool z, .bool c]] w fun e w' => e = .returned (.tuple #[.int .u8 (plR a b c), .agg #[.bool (bit7 (plR a b c)), .bool (plV a b c), .bool d, .bool i, .bool (isZ (plR a b c)), .bool (plC a b c)]]) ∧ Below w.heap.size w w' := by
  obtain ⟨ci, hci⟩ : ∃ x, bI c 1 = x := ⟨_, rfl⟩
  obtain ⟨hc0, hc1⟩ : 0 ≤ ci ∧ ci ≤ 1 := by rw [← hci]; exact bI_bd c 1 (by decide)
  have HCI := Lib.hid hci
  clear hci
  go_enter Try.func32, Try.ntmps32
  go_wp2_with fail
  refine (bitWhere_any _ _ _).mono ?_
  rintro e w' ⟨rfl, rfl⟩
  rw [HCI.out]
  go_wp2_with fail
  refine (overflows_any _ _ _ _ h0 h1 h2 h3 (by omega) (by omega)).mono ?_
  rintro e w' ⟨rfl, rfl⟩
  go_wp2_with fail
  refine (implNZ_any _ _ _ _ _ _ _ _ (by omega) (by omega)).mono ?_
  rintro e w1 ⟨rfl, hb⟩
  obtain ⟨hc, hf⟩ := bcell hb
  have hz : w.heap.size + 1 < w1.heap.size := by have := hb.size; simp at this; omega
  go_wp2
  refine bodyPost_ret (v := .tuple #[.int .u8 (plR a b c), .agg #[.bool (bit7 (plR a b c)), .bool (plV a b c), .bool d, .bool i, .bool (isZ (plR a b c)), .bool (plC a b c)]]) (by simp [results, Try.results32, go_sem, plR, plV, plC, plS, HCI.out, hc]) rfl ⟨rfl, ?_⟩
  exact (((((((((Below.refl _ _).alloc (Nat.le_refl _) _).alloc (by simp) _).trans (hb.mono (by simp; omega))).setCell (by simp) _).setCell (by simp) _).setCell (by simp) _).setCell (by simp) _).setCell (by simp) _).setCell (by simp) _

end Go.Proofs.Ytddfgplgjjkdcaa
