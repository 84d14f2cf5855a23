/-
  Contracts over the program: the model's own operations, by row, part and side (l03One, l03Two, l03Zero, l03Of).
-/
import Derived.WalkKit
import Derived.Lib.Hide
import Derived.Test.YtckfdbjjjgfbfaaUAluNum
namespace Go.Proofs.Ytckfdbjjjgfbfaa
set_option linter.unusedVariables false
set_option linter.unusedSimpArgs false
open Go.RowKit

/-- A cell of a row of eight that was just made. -/
theorem row8 (W : World) (v : Nat → Value) (t : TypeId) (r : Nat) (hr : r < 8) {B : Nat} (hB : B = W.heap.size) : (W.alloc (.cells #[v 0, v 1, v 2, v 3, v 4, v 5, v 6, v 7] t)).cell? ⟨B, r, none⟩ = some (v r) := by
  subst hB
  rw [World.cell?_alloc_at _ _ _ _ rfl]
  rcases r with _ | _ | _ | _ | _ | _ | _ | _ | r <;> first | rfl | omega

set_option maxRecDepth 100000 in
theorem specOne_rest (r p : Nat) (hr : r < 8) (hp : p < 8) (w : World) (hn : ¬ (r = 4 ∧ p = 2)) :
    Calls Try.prog 93 #[.int .i64 r, .int .i64 p] w fun e w' => e = .returned (.agg #[.string (opTx (1 + r)), .int .i64 (oneMode p)]) ∧ Below w.heap.size w w' := by
  have hN : (((w.alloc (.cells #[.string ⟨#[]⟩, .int .i64 0] 130)).alloc (.cells #[.string ⟨#[79, 82, 65]⟩, .string ⟨#[65, 78, 68]⟩, .string ⟨#[69, 79, 82]⟩, .string ⟨#[65, 68, 67]⟩, .string ⟨#[83, 84, 65]⟩, .string ⟨#[76, 68, 65]⟩, .string ⟨#[67, 77, 80]⟩, .string ⟨#[83, 66, 67]⟩] 9)).alloc (.cells #[.int .i64 10, .int .i64 3, .int .i64 2, .int .i64 6, .int .i64 11, .int .i64 4, .int .i64 8, .int .i64 7] 3)).cell? ⟨w.heap.size + 1, r, none⟩ = some (.string (opTx (1 + r))) := by
    rw [World.cell?_alloc_past _ _ _ (by simp)]
    exact row8 (w.alloc (.cells #[.string ⟨#[]⟩, .int .i64 0] 130)) (fun r => .string (opTx (1 + r))) 9 r hr (by simp)
  have hM : (((w.alloc (.cells #[.string ⟨#[]⟩, .int .i64 0] 130)).alloc (.cells #[.string ⟨#[79, 82, 65]⟩, .string ⟨#[65, 78, 68]⟩, .string ⟨#[69, 79, 82]⟩, .string ⟨#[65, 68, 67]⟩, .string ⟨#[83, 84, 65]⟩, .string ⟨#[76, 68, 65]⟩, .string ⟨#[67, 77, 80]⟩, .string ⟨#[83, 66, 67]⟩] 9)).alloc (.cells #[.int .i64 10, .int .i64 3, .int .i64 2, .int .i64 6, .int .i64 11, .int .i64 4, .int .i64 8, .int .i64 7] 3)).cell? ⟨w.heap.size + 1 + 1, p, none⟩ = some (.int .i64 (oneMode p)) :=
    row8 ((w.alloc (.cells #[.string ⟨#[]⟩, .int .i64 0] 130)).alloc (.cells #[.string ⟨#[79, 82, 65]⟩, .string ⟨#[65, 78, 68]⟩, .string ⟨#[69, 79, 82]⟩, .string ⟨#[65, 68, 67]⟩, .string ⟨#[83, 84, 65]⟩, .string ⟨#[76, 68, 65]⟩, .string ⟨#[67, 77, 80]⟩, .string ⟨#[83, 66, 67]⟩] 9)) (fun p => .int .i64 (oneMode p)) 3 p hp (by simp)
  have hr8 : 0 ≤ (r : Int) ∧ (r : Int) < 8 := by omega
  have hp8 : 0 ≤ (p : Int) ∧ (p : Int) < 8 := by omega
  have ht : ((r : Int) == 4) = false ∨ (((r : Int) == 4) = true ∧ ((p : Int) == 2) = false) := by
    simp; omega
  clear hn hr hp
  rcases ht with h4 | ⟨h4, h2⟩ <;>
  · go_enter Try.func93, Try.ntmps93
    go_wp2
    go_region
    go_wp2
    refine bodyPost_ret (v := .agg #[.string (opTx (1 + r)), .int .i64 (oneMode p)]) (by simp [results, Try.results93, go_sem]) rfl ⟨rfl, ?_⟩
    repeat (any_goals (first | (with_reducible exact Below.refl _ _) | (with_reducible refine Below.drew ?_) | (with_reducible refine Below.alloc ?_ ?_ _)))
    all_goals (first | (simp; done) | (simp; omega))

set_option maxRecDepth 100000 in
theorem specOne_none (w : World) :
    Calls Try.prog 93 #[.int .i64 4, .int .i64 2] w fun e w' => e = .returned (.agg #[.string (opTx 0), .int .i64 0]) ∧ Below w.heap.size w w' := by
  go_enter Try.func93, Try.ntmps93
  go_wp2
  exact bodyPost_ret (v := .agg #[.string (opTx 0), .int .i64 0]) (by simp [results, Try.results93, go_sem, opTx]) rfl ⟨rfl, (Below.refl _ _).alloc (by simp) _⟩

theorem specOne_any (r p : Nat) (hr : r < 8) (hp : p < 8) (w : World) :
    Calls Try.prog 93 #[.int .i64 r, .int .i64 p] w fun e w' => e = .returned (.agg #[.string (opTx (sideOneI r p)), .int .i64 (sideOneM r p)]) ∧ Below w.heap.size w w' := by
  by_cases h : r = 4 ∧ p = 2
  · obtain ⟨rfl, rfl⟩ := h
    exact specOne_none w
  · simp only [sideOneI, sideOneM, if_neg h]
    exact specOne_rest r p hr hp w h

set_option maxRecDepth 100000 in
theorem specTwo_0o (r : Nat) (hr : r < 8) (h0 : ((r : Int) == 4) = false) (h1 : ((r : Int) == 5) = false) (w : World) :
    Calls Try.prog 94 #[.int .i64 r, .int .i64 0] w fun e w' => e = .returned (.agg #[.string (opTx (0)), .int .i64 (0)]) ∧ Below w.heap.size w w' := by
  have hN : ((w.alloc (.cells #[.string ⟨#[]⟩, .int .i64 0] 130)).alloc (.cells #[.string ⟨#[65, 83, 76]⟩, .string ⟨#[82, 79, 76]⟩, .string ⟨#[76, 83, 82]⟩, .string ⟨#[82, 79, 82]⟩, .string ⟨#[83, 84, 88]⟩, .string ⟨#[76, 68, 88]⟩, .string ⟨#[68, 69, 67]⟩, .string ⟨#[73, 78, 67]⟩] 9)).cell? ⟨w.heap.size + 1, r, none⟩ = some (.string (opTx (9 + r))) :=
    row8 (w.alloc (.cells #[.string ⟨#[]⟩, .int .i64 0] 130)) (fun r => .string (opTx (9 + r))) 9 r hr (by simp)
  have hr8 : 0 ≤ (r : Int) ∧ (r : Int) < 8 := by omega
  clear hr
  go_enter Try.func94, Try.ntmps94
  go_wp2
  refine bodyPost_ret (v := .agg #[.string (opTx (0)), .int .i64 (0)]) (by simp [results, Try.results94, go_sem, opTx]) rfl ⟨rfl, ?_⟩
  repeat (any_goals (first | (with_reducible exact Below.refl _ _) | (with_reducible refine Below.drew ?_) | (with_reducible refine Below.alloc ?_ ?_ _)))
  all_goals (first | (simp; done) | (simp; omega))

set_option maxRecDepth 100000 in
theorem specTwo_04 (w : World) :
    Calls Try.prog 94 #[.int .i64 4, .int .i64 0] w fun e w' => e = .returned (.agg #[.string (opTx (0)), .int .i64 (0)]) ∧ Below w.heap.size w w' := by
  go_enter Try.func94, Try.ntmps94
  go_wp2
  refine bodyPost_ret (v := .agg #[.string (opTx (0)), .int .i64 (0)]) (by simp [results, Try.results94, go_sem, opTx]) rfl ⟨rfl, ?_⟩
  repeat (any_goals (first | (with_reducible exact Below.refl _ _) | (with_reducible refine Below.drew ?_) | (with_reducible refine Below.alloc ?_ ?_ _)))
  all_goals (first | (simp; done) | (simp; omega))

set_option maxRecDepth 100000 in
theorem specTwo_05 (w : World) :
    Calls Try.prog 94 #[.int .i64 5, .int .i64 0] w fun e w' => e = .returned (.agg #[.string (opTx (14)), .int .i64 (2)]) ∧ Below w.heap.size w w' := by
  go_enter Try.func94, Try.ntmps94
  go_wp2
  refine bodyPost_ret (v := .agg #[.string (opTx (14)), .int .i64 (2)]) (by simp [results, Try.results94, go_sem, opTx]) rfl ⟨rfl, ?_⟩
  repeat (any_goals (first | (with_reducible exact Below.refl _ _) | (with_reducible refine Below.drew ?_) | (with_reducible refine Below.alloc ?_ ?_ _)))
  all_goals (first | (simp; done) | (simp; omega))

set_option maxRecDepth 100000 in
theorem specTwo_1o (r : Nat) (hr : r < 8) (h0 : ((r : Int) == 4) = false) (h1 : ((r : Int) == 5) = false) (w : World) :
    Calls Try.prog 94 #[.int .i64 r, .int .i64 1] w fun e w' => e = .returned (.agg #[.string (opTx (9 + r)), .int .i64 (3)]) ∧ Below w.heap.size w w' := by
  have hN : ((w.alloc (.cells #[.string ⟨#[]⟩, .int .i64 0] 130)).alloc (.cells #[.string ⟨#[65, 83, 76]⟩, .string ⟨#[82, 79, 76]⟩, .string ⟨#[76, 83, 82]⟩, .string ⟨#[82, 79, 82]⟩, .string ⟨#[83, 84, 88]⟩, .string ⟨#[76, 68, 88]⟩, .string ⟨#[68, 69, 67]⟩, .string ⟨#[73, 78, 67]⟩] 9)).cell? ⟨w.heap.size + 1, r, none⟩ = some (.string (opTx (9 + r))) :=
    row8 (w.alloc (.cells #[.string ⟨#[]⟩, .int .i64 0] 130)) (fun r => .string (opTx (9 + r))) 9 r hr (by simp)
  have hr8 : 0 ≤ (r : Int) ∧ (r : Int) < 8 := by omega
  clear hr
  go_enter Try.func94, Try.ntmps94
  go_wp2
  refine bodyPost_ret (v := .agg #[.string (opTx (9 + r)), .int .i64 (3)]) (by simp [results, Try.results94, go_sem]) rfl ⟨rfl, ?_⟩
  repeat (any_goals (first | (with_reducible exact Below.refl _ _) | (with_reducible refine Below.drew ?_) | (with_reducible refine Below.alloc ?_ ?_ _)))
  all_goals (first | (simp; done) | (simp; omega))

set_option maxRecDepth 100000 in
theorem specTwo_14 (w : World) :
    Calls Try.prog 94 #[.int .i64 4, .int .i64 1] w fun e w' => e = .returned (.agg #[.string (opTx (13)), .int .i64 (3)]) ∧ Below w.heap.size w w' := by
  go_enter Try.func94, Try.ntmps94
  go_wp2
  refine bodyPost_ret (v := .agg #[.string (opTx (13)), .int .i64 (3)]) (by simp [results, Try.results94, go_sem, opTx]) rfl ⟨rfl, ?_⟩
  repeat (any_goals (first | (with_reducible exact Below.refl _ _) | (with_reducible refine Below.drew ?_) | (with_reducible refine Below.alloc ?_ ?_ _)))
  all_goals (first | (simp; done) | (simp; omega))

set_option maxRecDepth 100000 in
theorem specTwo_15 (w : World) :
    Calls Try.prog 94 #[.int .i64 5, .int .i64 1] w fun e w' => e = .returned (.agg #[.string (opTx (14)), .int .i64 (3)]) ∧ Below w.heap.size w w' := by
  go_enter Try.func94, Try.ntmps94
  go_wp2
  refine bodyPost_ret (v := .agg #[.string (opTx (14)), .int .i64 (3)]) (by simp [results, Try.results94, go_sem, opTx]) rfl ⟨rfl, ?_⟩
  repeat (any_goals (first | (with_reducible exact Below.refl _ _) | (with_reducible refine Below.drew ?_) | (with_reducible refine Below.alloc ?_ ?_ _)))
  all_goals (first | (simp; done) | (simp; omega))

set_option maxRecDepth 100000 in
theorem specTwo_3o (r : Nat) (hr : r < 8) (h0 : ((r : Int) == 4) = false) (h1 : ((r : Int) == 5) = false) (w : World) :
    Calls Try.prog 94 #[.int .i64 r, .int .i64 3] w fun e w' => e = .returned (.agg #[.string (opTx (9 + r)), .int .i64 (6)]) ∧ Below w.heap.size w w' := by
  have hN : ((w.alloc (.cells #[.string ⟨#[]⟩, .int .i64 0] 130)).alloc (.cells #[.string ⟨#[65, 83, 76]⟩, .string ⟨#[82, 79, 76]⟩, .string ⟨#[76, 83, 82]⟩, .string ⟨#[82, 79, 82]⟩, .string ⟨#[83, 84, 88]⟩, .string ⟨#[76, 68, 88]⟩, .string ⟨#[68, 69, 67]⟩, .string ⟨#[73, 78, 67]⟩] 9)).cell? ⟨w.heap.size + 1, r, none⟩ = some (.string (opTx (9 + r))) :=
    row8 (w.alloc (.cells #[.string ⟨#[]⟩, .int .i64 0] 130)) (fun r => .string (opTx (9 + r))) 9 r hr (by simp)
  have hr8 : 0 ≤ (r : Int) ∧ (r : Int) < 8 := by omega
  clear hr
  go_enter Try.func94, Try.ntmps94
  go_wp2
  refine bodyPost_ret (v := .agg #[.string (opTx (9 + r)), .int .i64 (6)]) (by simp [results, Try.results94, go_sem]) rfl ⟨rfl, ?_⟩
  repeat (any_goals (first | (with_reducible exact Below.refl _ _) | (with_reducible refine Below.drew ?_) | (with_reducible refine Below.alloc ?_ ?_ _)))
  all_goals (first | (simp; done) | (simp; omega))

set_option maxRecDepth 100000 in
theorem specTwo_34 (w : World) :
    Calls Try.prog 94 #[.int .i64 4, .int .i64 3] w fun e w' => e = .returned (.agg #[.string (opTx (13)), .int .i64 (6)]) ∧ Below w.heap.size w w' := by
  go_enter Try.func94, Try.ntmps94
  go_wp2
  refine bodyPost_ret (v := .agg #[.string (opTx (13)), .int .i64 (6)]) (by simp [results, Try.results94, go_sem, opTx]) rfl ⟨rfl, ?_⟩
  repeat (any_goals (first | (with_reducible exact Below.refl _ _) | (with_reducible refine Below.drew ?_) | (with_reducible refine Below.alloc ?_ ?_ _)))
  all_goals (first | (simp; done) | (simp; omega))

set_option maxRecDepth 100000 in
theorem specTwo_35 (w : World) :
    Calls Try.prog 94 #[.int .i64 5, .int .i64 3] w fun e w' => e = .returned (.agg #[.string (opTx (14)), .int .i64 (6)]) ∧ Below w.heap.size w w' := by
  go_enter Try.func94, Try.ntmps94
  go_wp2
  refine bodyPost_ret (v := .agg #[.string (opTx (14)), .int .i64 (6)]) (by simp [results, Try.results94, go_sem, opTx]) rfl ⟨rfl, ?_⟩
  repeat (any_goals (first | (with_reducible exact Below.refl _ _) | (with_reducible refine Below.drew ?_) | (with_reducible refine Below.alloc ?_ ?_ _)))
  all_goals (first | (simp; done) | (simp; omega))

set_option maxRecDepth 100000 in
theorem specTwo_4o (r : Nat) (hr : r < 8) (h0 : ((r : Int) == 4) = false) (h1 : ((r : Int) == 5) = false) (w : World) :
    Calls Try.prog 94 #[.int .i64 r, .int .i64 4] w fun e w' => e = .returned (.agg #[.string (opTx (0)), .int .i64 (0)]) ∧ Below w.heap.size w w' := by
  have hN : ((w.alloc (.cells #[.string ⟨#[]⟩, .int .i64 0] 130)).alloc (.cells #[.string ⟨#[65, 83, 76]⟩, .string ⟨#[82, 79, 76]⟩, .string ⟨#[76, 83, 82]⟩, .string ⟨#[82, 79, 82]⟩, .string ⟨#[83, 84, 88]⟩, .string ⟨#[76, 68, 88]⟩, .string ⟨#[68, 69, 67]⟩, .string ⟨#[73, 78, 67]⟩] 9)).cell? ⟨w.heap.size + 1, r, none⟩ = some (.string (opTx (9 + r))) :=
    row8 (w.alloc (.cells #[.string ⟨#[]⟩, .int .i64 0] 130)) (fun r => .string (opTx (9 + r))) 9 r hr (by simp)
  have hr8 : 0 ≤ (r : Int) ∧ (r : Int) < 8 := by omega
  clear hr
  go_enter Try.func94, Try.ntmps94
  go_wp2
  refine bodyPost_ret (v := .agg #[.string (opTx (0)), .int .i64 (0)]) (by simp [results, Try.results94, go_sem, opTx]) rfl ⟨rfl, ?_⟩
  repeat (any_goals (first | (with_reducible exact Below.refl _ _) | (with_reducible refine Below.drew ?_) | (with_reducible refine Below.alloc ?_ ?_ _)))
  all_goals (first | (simp; done) | (simp; omega))

set_option maxRecDepth 100000 in
theorem specTwo_44 (w : World) :
    Calls Try.prog 94 #[.int .i64 4, .int .i64 4] w fun e w' => e = .returned (.agg #[.string (opTx (0)), .int .i64 (0)]) ∧ Below w.heap.size w w' := by
  go_enter Try.func94, Try.ntmps94
  go_wp2
  refine bodyPost_ret (v := .agg #[.string (opTx (0)), .int .i64 (0)]) (by simp [results, Try.results94, go_sem, opTx]) rfl ⟨rfl, ?_⟩
  repeat (any_goals (first | (with_reducible exact Below.refl _ _) | (with_reducible refine Below.drew ?_) | (with_reducible refine Below.alloc ?_ ?_ _)))
  all_goals (first | (simp; done) | (simp; omega))

set_option maxRecDepth 100000 in
theorem specTwo_45 (w : World) :
    Calls Try.prog 94 #[.int .i64 5, .int .i64 4] w fun e w' => e = .returned (.agg #[.string (opTx (0)), .int .i64 (0)]) ∧ Below w.heap.size w w' := by
  go_enter Try.func94, Try.ntmps94
  go_wp2
  refine bodyPost_ret (v := .agg #[.string (opTx (0)), .int .i64 (0)]) (by simp [results, Try.results94, go_sem, opTx]) rfl ⟨rfl, ?_⟩
  repeat (any_goals (first | (with_reducible exact Below.refl _ _) | (with_reducible refine Below.drew ?_) | (with_reducible refine Below.alloc ?_ ?_ _)))
  all_goals (first | (simp; done) | (simp; omega))

set_option maxRecDepth 100000 in
theorem specTwo_5o (r : Nat) (hr : r < 8) (h0 : ((r : Int) == 4) = false) (h1 : ((r : Int) == 5) = false) (w : World) :
    Calls Try.prog 94 #[.int .i64 r, .int .i64 5] w fun e w' => e = .returned (.agg #[.string (opTx (9 + r)), .int .i64 (4)]) ∧ Below w.heap.size w w' := by
  have hN : ((w.alloc (.cells #[.string ⟨#[]⟩, .int .i64 0] 130)).alloc (.cells #[.string ⟨#[65, 83, 76]⟩, .string ⟨#[82, 79, 76]⟩, .string ⟨#[76, 83, 82]⟩, .string ⟨#[82, 79, 82]⟩, .string ⟨#[83, 84, 88]⟩, .string ⟨#[76, 68, 88]⟩, .string ⟨#[68, 69, 67]⟩, .string ⟨#[73, 78, 67]⟩] 9)).cell? ⟨w.heap.size + 1, r, none⟩ = some (.string (opTx (9 + r))) :=
    row8 (w.alloc (.cells #[.string ⟨#[]⟩, .int .i64 0] 130)) (fun r => .string (opTx (9 + r))) 9 r hr (by simp)
  have hr8 : 0 ≤ (r : Int) ∧ (r : Int) < 8 := by omega
  clear hr
  go_enter Try.func94, Try.ntmps94
  go_wp2
  refine bodyPost_ret (v := .agg #[.string (opTx (9 + r)), .int .i64 (4)]) (by simp [results, Try.results94, go_sem]) rfl ⟨rfl, ?_⟩
  repeat (any_goals (first | (with_reducible exact Below.refl _ _) | (with_reducible refine Below.drew ?_) | (with_reducible refine Below.alloc ?_ ?_ _)))
  all_goals (first | (simp; done) | (simp; omega))

set_option maxRecDepth 100000 in
theorem specTwo_54 (w : World) :
    Calls Try.prog 94 #[.int .i64 4, .int .i64 5] w fun e w' => e = .returned (.agg #[.string (opTx (13)), .int .i64 (5)]) ∧ Below w.heap.size w w' := by
  go_enter Try.func94, Try.ntmps94
  go_wp2
  refine bodyPost_ret (v := .agg #[.string (opTx (13)), .int .i64 (5)]) (by simp [results, Try.results94, go_sem, opTx]) rfl ⟨rfl, ?_⟩
  repeat (any_goals (first | (with_reducible exact Below.refl _ _) | (with_reducible refine Below.drew ?_) | (with_reducible refine Below.alloc ?_ ?_ _)))
  all_goals (first | (simp; done) | (simp; omega))

set_option maxRecDepth 100000 in
theorem specTwo_55 (w : World) :
    Calls Try.prog 94 #[.int .i64 5, .int .i64 5] w fun e w' => e = .returned (.agg #[.string (opTx (14)), .int .i64 (5)]) ∧ Below w.heap.size w w' := by
  go_enter Try.func94, Try.ntmps94
  go_wp2
  refine bodyPost_ret (v := .agg #[.string (opTx (14)), .int .i64 (5)]) (by simp [results, Try.results94, go_sem, opTx]) rfl ⟨rfl, ?_⟩
  repeat (any_goals (first | (with_reducible exact Below.refl _ _) | (with_reducible refine Below.drew ?_) | (with_reducible refine Below.alloc ?_ ?_ _)))
  all_goals (first | (simp; done) | (simp; omega))

set_option maxRecDepth 100000 in
theorem specTwo_6o (r : Nat) (hr : r < 8) (h0 : ((r : Int) == 4) = false) (h1 : ((r : Int) == 5) = false) (w : World) :
    Calls Try.prog 94 #[.int .i64 r, .int .i64 6] w fun e w' => e = .returned (.agg #[.string (opTx (0)), .int .i64 (0)]) ∧ Below w.heap.size w w' := by
  have hN : ((w.alloc (.cells #[.string ⟨#[]⟩, .int .i64 0] 130)).alloc (.cells #[.string ⟨#[65, 83, 76]⟩, .string ⟨#[82, 79, 76]⟩, .string ⟨#[76, 83, 82]⟩, .string ⟨#[82, 79, 82]⟩, .string ⟨#[83, 84, 88]⟩, .string ⟨#[76, 68, 88]⟩, .string ⟨#[68, 69, 67]⟩, .string ⟨#[73, 78, 67]⟩] 9)).cell? ⟨w.heap.size + 1, r, none⟩ = some (.string (opTx (9 + r))) :=
    row8 (w.alloc (.cells #[.string ⟨#[]⟩, .int .i64 0] 130)) (fun r => .string (opTx (9 + r))) 9 r hr (by simp)
  have hr8 : 0 ≤ (r : Int) ∧ (r : Int) < 8 := by omega
  clear hr
  go_enter Try.func94, Try.ntmps94
  go_wp2
  refine bodyPost_ret (v := .agg #[.string (opTx (0)), .int .i64 (0)]) (by simp [results, Try.results94, go_sem, opTx]) rfl ⟨rfl, ?_⟩
  repeat (any_goals (first | (with_reducible exact Below.refl _ _) | (with_reducible refine Below.drew ?_) | (with_reducible refine Below.alloc ?_ ?_ _)))
  all_goals (first | (simp; done) | (simp; omega))

set_option maxRecDepth 100000 in
theorem specTwo_64 (w : World) :
    Calls Try.prog 94 #[.int .i64 4, .int .i64 6] w fun e w' => e = .returned (.agg #[.string (opTx (21)), .int .i64 (0)]) ∧ Below w.heap.size w w' := by
  go_enter Try.func94, Try.ntmps94
  go_wp2
  refine bodyPost_ret (v := .agg #[.string (opTx (21)), .int .i64 (0)]) (by simp [results, Try.results94, go_sem, opTx]) rfl ⟨rfl, ?_⟩
  repeat (any_goals (first | (with_reducible exact Below.refl _ _) | (with_reducible refine Below.drew ?_) | (with_reducible refine Below.alloc ?_ ?_ _)))
  all_goals (first | (simp; done) | (simp; omega))

set_option maxRecDepth 100000 in
theorem specTwo_65 (w : World) :
    Calls Try.prog 94 #[.int .i64 5, .int .i64 6] w fun e w' => e = .returned (.agg #[.string (opTx (22)), .int .i64 (0)]) ∧ Below w.heap.size w w' := by
  go_enter Try.func94, Try.ntmps94
  go_wp2
  refine bodyPost_ret (v := .agg #[.string (opTx (22)), .int .i64 (0)]) (by simp [results, Try.results94, go_sem, opTx]) rfl ⟨rfl, ?_⟩
  repeat (any_goals (first | (with_reducible exact Below.refl _ _) | (with_reducible refine Below.drew ?_) | (with_reducible refine Below.alloc ?_ ?_ _)))
  all_goals (first | (simp; done) | (simp; omega))

set_option maxRecDepth 100000 in
theorem specTwo_7o (r : Nat) (hr : r < 8) (h0 : ((r : Int) == 4) = false) (h1 : ((r : Int) == 5) = false) (w : World) :
    Calls Try.prog 94 #[.int .i64 r, .int .i64 7] w fun e w' => e = .returned (.agg #[.string (opTx (9 + r)), .int .i64 (7)]) ∧ Below w.heap.size w w' := by
  have hN : ((w.alloc (.cells #[.string ⟨#[]⟩, .int .i64 0] 130)).alloc (.cells #[.string ⟨#[65, 83, 76]⟩, .string ⟨#[82, 79, 76]⟩, .string ⟨#[76, 83, 82]⟩, .string ⟨#[82, 79, 82]⟩, .string ⟨#[83, 84, 88]⟩, .string ⟨#[76, 68, 88]⟩, .string ⟨#[68, 69, 67]⟩, .string ⟨#[73, 78, 67]⟩] 9)).cell? ⟨w.heap.size + 1, r, none⟩ = some (.string (opTx (9 + r))) :=
    row8 (w.alloc (.cells #[.string ⟨#[]⟩, .int .i64 0] 130)) (fun r => .string (opTx (9 + r))) 9 r hr (by simp)
  have hr8 : 0 ≤ (r : Int) ∧ (r : Int) < 8 := by omega
  clear hr
  go_enter Try.func94, Try.ntmps94
  go_wp2
  refine bodyPost_ret (v := .agg #[.string (opTx (9 + r)), .int .i64 (7)]) (by simp [results, Try.results94, go_sem]) rfl ⟨rfl, ?_⟩
  repeat (any_goals (first | (with_reducible exact Below.refl _ _) | (with_reducible refine Below.drew ?_) | (with_reducible refine Below.alloc ?_ ?_ _)))
  all_goals (first | (simp; done) | (simp; omega))

set_option maxRecDepth 100000 in
theorem specTwo_74 (w : World) :
    Calls Try.prog 94 #[.int .i64 4, .int .i64 7] w fun e w' => e = .returned (.agg #[.string (opTx (0)), .int .i64 (0)]) ∧ Below w.heap.size w w' := by
  go_enter Try.func94, Try.ntmps94
  go_wp2
  refine bodyPost_ret (v := .agg #[.string (opTx (0)), .int .i64 (0)]) (by simp [results, Try.results94, go_sem, opTx]) rfl ⟨rfl, ?_⟩
  repeat (any_goals (first | (with_reducible exact Below.refl _ _) | (with_reducible refine Below.drew ?_) | (with_reducible refine Below.alloc ?_ ?_ _)))
  all_goals (first | (simp; done) | (simp; omega))

set_option maxRecDepth 100000 in
theorem specTwo_75 (w : World) :
    Calls Try.prog 94 #[.int .i64 5, .int .i64 7] w fun e w' => e = .returned (.agg #[.string (opTx (14)), .int .i64 (8)]) ∧ Below w.heap.size w w' := by
  go_enter Try.func94, Try.ntmps94
  go_wp2
  refine bodyPost_ret (v := .agg #[.string (opTx (14)), .int .i64 (8)]) (by simp [results, Try.results94, go_sem, opTx]) rfl ⟨rfl, ?_⟩
  repeat (any_goals (first | (with_reducible exact Below.refl _ _) | (with_reducible refine Below.drew ?_) | (with_reducible refine Below.alloc ?_ ?_ _)))
  all_goals (first | (simp; done) | (simp; omega))

set_option maxRecDepth 100000 in
theorem specTwo_2o (r : Nat) (hr : r < 8) (h0 : ((r : Int) == 4) = false) (h1 : ((r : Int) == 5) = false) (h2 : (r : Int) < 4) (w : World) :
    Calls Try.prog 94 #[.int .i64 r, .int .i64 2] w fun e w' => e = .returned (.agg #[.string (opTx (9 + r)), .int .i64 (1)]) ∧ Below w.heap.size w w' := by
  have hN : ((w.alloc (.cells #[.string ⟨#[]⟩, .int .i64 0] 130)).alloc (.cells #[.string ⟨#[65, 83, 76]⟩, .string ⟨#[82, 79, 76]⟩, .string ⟨#[76, 83, 82]⟩, .string ⟨#[82, 79, 82]⟩, .string ⟨#[83, 84, 88]⟩, .string ⟨#[76, 68, 88]⟩, .string ⟨#[68, 69, 67]⟩, .string ⟨#[73, 78, 67]⟩] 9)).cell? ⟨w.heap.size + 1, r, none⟩ = some (.string (opTx (9 + r))) :=
    row8 (w.alloc (.cells #[.string ⟨#[]⟩, .int .i64 0] 130)) (fun r => .string (opTx (9 + r))) 9 r hr (by simp)
  have hr8 : 0 ≤ (r : Int) ∧ (r : Int) < 8 := by omega
  clear hr
  go_enter Try.func94, Try.ntmps94
  go_wp2
  refine bodyPost_ret (v := .agg #[.string (opTx (9 + r)), .int .i64 (1)]) (by simp [results, Try.results94, go_sem]) rfl ⟨rfl, ?_⟩
  repeat (any_goals (first | (with_reducible exact Below.refl _ _) | (with_reducible refine Below.drew ?_) | (with_reducible refine Below.alloc ?_ ?_ _)))
  all_goals (first | (simp; done) | (simp; omega))

set_option maxRecDepth 100000 in
theorem specTwo_24 (w : World) :
    Calls Try.prog 94 #[.int .i64 4, .int .i64 2] w fun e w' => e = .returned (.agg #[.string (opTx (17)), .int .i64 (0)]) ∧ Below w.heap.size w w' := by
  go_enter Try.func94, Try.ntmps94
  go_wp2
  refine bodyPost_ret (v := .agg #[.string (opTx (17)), .int .i64 (0)]) (by simp [results, Try.results94, go_sem, opTx]) rfl ⟨rfl, ?_⟩
  repeat (any_goals (first | (with_reducible exact Below.refl _ _) | (with_reducible refine Below.drew ?_) | (with_reducible refine Below.alloc ?_ ?_ _)))
  all_goals (first | (simp; done) | (simp; omega))

set_option maxRecDepth 100000 in
theorem specTwo_25 (w : World) :
    Calls Try.prog 94 #[.int .i64 5, .int .i64 2] w fun e w' => e = .returned (.agg #[.string (opTx (18)), .int .i64 (0)]) ∧ Below w.heap.size w w' := by
  go_enter Try.func94, Try.ntmps94
  go_wp2
  refine bodyPost_ret (v := .agg #[.string (opTx (18)), .int .i64 (0)]) (by simp [results, Try.results94, go_sem, opTx]) rfl ⟨rfl, ?_⟩
  repeat (any_goals (first | (with_reducible exact Below.refl _ _) | (with_reducible refine Below.drew ?_) | (with_reducible refine Below.alloc ?_ ?_ _)))
  all_goals (first | (simp; done) | (simp; omega))

set_option maxRecDepth 100000 in
theorem specTwo_26 (w : World) :
    Calls Try.prog 94 #[.int .i64 6, .int .i64 2] w fun e w' => e = .returned (.agg #[.string (opTx (19)), .int .i64 (0)]) ∧ Below w.heap.size w w' := by
  go_enter Try.func94, Try.ntmps94
  go_wp2
  refine bodyPost_ret (v := .agg #[.string (opTx (19)), .int .i64 (0)]) (by simp [results, Try.results94, go_sem, opTx]) rfl ⟨rfl, ?_⟩
  repeat (any_goals (first | (with_reducible exact Below.refl _ _) | (with_reducible refine Below.drew ?_) | (with_reducible refine Below.alloc ?_ ?_ _)))
  all_goals (first | (simp; done) | (simp; omega))

set_option maxRecDepth 100000 in
theorem specTwo_27 (w : World) :
    Calls Try.prog 94 #[.int .i64 7, .int .i64 2] w fun e w' => e = .returned (.agg #[.string (opTx (20)), .int .i64 (0)]) ∧ Below w.heap.size w w' := by
  go_enter Try.func94, Try.ntmps94
  go_wp2
  refine bodyPost_ret (v := .agg #[.string (opTx (20)), .int .i64 (0)]) (by simp [results, Try.results94, go_sem, opTx]) rfl ⟨rfl, ?_⟩
  repeat (any_goals (first | (with_reducible exact Below.refl _ _) | (with_reducible refine Below.drew ?_) | (with_reducible refine Below.alloc ?_ ?_ _)))
  all_goals (first | (simp; done) | (simp; omega))

theorem specTwo_any (r p : Nat) (hr : r < 8) (hp : p < 8) (w : World) :
    Calls Try.prog 94 #[.int .i64 r, .int .i64 p] w fun e w' => e = .returned (.agg #[.string (opTx (sideTwoI r p)), .int .i64 (sideTwoM r p)]) ∧ Below w.heap.size w w' := by
  by_cases h4 : r = 4
  · subst h4
    rcases p with _ | _ | _ | _ | _ | _ | _ | _ | p
    · exact specTwo_04 w
    · exact specTwo_14 w
    · exact specTwo_24 w
    · exact specTwo_34 w
    · exact specTwo_44 w
    · exact specTwo_54 w
    · exact specTwo_64 w
    · exact specTwo_74 w
    · omega
  by_cases h5 : r = 5
  · subst h5
    rcases p with _ | _ | _ | _ | _ | _ | _ | _ | p
    · exact specTwo_05 w
    · exact specTwo_15 w
    · exact specTwo_25 w
    · exact specTwo_35 w
    · exact specTwo_45 w
    · exact specTwo_55 w
    · exact specTwo_65 w
    · exact specTwo_75 w
    · omega
  have k4 : ((r : Int) == 4) = false := by simp; omega
  have k5 : ((r : Int) == 5) = false := by simp; omega
  rcases p with _ | _ | _ | _ | _ | _ | _ | _ | p
  · simpa [sideTwoI, sideTwoM, h5] using specTwo_0o r hr k4 k5 w
  · simpa [sideTwoI, sideTwoM] using specTwo_1o r hr k4 k5 w
  · by_cases hs : r < 4
    · simpa [sideTwoI, sideTwoM, hs] using specTwo_2o r hr k4 k5 (by omega) w
    · obtain rfl | rfl : r = 6 ∨ r = 7 := by omega
      · exact specTwo_26 w
      · exact specTwo_27 w
  · simpa [sideTwoI, sideTwoM] using specTwo_3o r hr k4 k5 w
  · simpa [sideTwoI, sideTwoM] using specTwo_4o r hr k4 k5 w
  · simpa [sideTwoI, sideTwoM, h4, h5] using specTwo_5o r hr k4 k5 w
  · simpa [sideTwoI, sideTwoM, h4, h5] using specTwo_6o r hr k4 k5 w
  · simpa [sideTwoI, sideTwoM, h4, h5] using specTwo_7o r hr k4 k5 w
  · omega

end Go.Proofs.Ytckfdbjjjgfbfaa
