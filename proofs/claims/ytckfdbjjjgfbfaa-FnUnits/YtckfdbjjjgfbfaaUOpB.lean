/-
  Contracts over the program: the model's own operations of side 0 (l03Zero), and of any byte (l03Of).
-/
import Derived.Test.YtckfdbjjjgfbfaaUOpA
namespace Go.Proofs.Ytckfdbjjjgfbfaa
set_option linter.unusedVariables false
set_option linter.unusedSimpArgs false
open Go.RowKit

set_option maxRecDepth 100000 in
theorem specZero_0 (r : Nat) (hr : r < 8) (w : World) :
    Calls Try.prog 92 #[.int .i64 r, .int .i64 0] w fun e w' => e = .returned (.agg #[.string (opTx (zeroId r)), .int .i64 (zeroMode r)]) ∧ Below w.heap.size w w' := by
  have hL : ((w.alloc (.cells #[.string ⟨#[]⟩, .int .i64 0] 130)).alloc (.cells #[.string ⟨#[]⟩, .string ⟨#[]⟩, .string ⟨#[]⟩, .string ⟨#[]⟩, .string ⟨#[83, 84, 89]⟩, .string ⟨#[76, 68, 89]⟩, .string ⟨#[67, 80, 89]⟩, .string ⟨#[67, 80, 88]⟩] 9)).cell? ⟨w.heap.size + 1, r, none⟩ = some (.string (opTx (lateId r))) :=
    row8 (w.alloc (.cells #[.string ⟨#[]⟩, .int .i64 0] 130)) (fun r => .string (opTx (lateId r))) 9 r hr (by simp)
  have hM : ((((w.alloc (.cells #[.string ⟨#[]⟩, .int .i64 0] 130)).alloc (.cells #[.string ⟨#[]⟩, .string ⟨#[]⟩, .string ⟨#[]⟩, .string ⟨#[]⟩, .string ⟨#[83, 84, 89]⟩, .string ⟨#[76, 68, 89]⟩, .string ⟨#[67, 80, 89]⟩, .string ⟨#[67, 80, 88]⟩] 9)).alloc (.cells #[.int .i64 0, .int .i64 6, .int .i64 0, .int .i64 0, .int .i64 0, .int .i64 2, .int .i64 2, .int .i64 2] 3)).alloc (.cells #[.string ⟨#[66, 82, 75]⟩, .string ⟨#[74, 83, 82]⟩, .string ⟨#[82, 84, 73]⟩, .string ⟨#[82, 84, 83]⟩, .string ⟨#[]⟩, .string ⟨#[76, 68, 89]⟩, .string ⟨#[67, 80, 89]⟩, .string ⟨#[67, 80, 88]⟩] 9)).cell? ⟨w.heap.size + 1 + 1, r, none⟩ = some (.int .i64 (zeroMode r)) := by
    rw [World.cell?_alloc_past _ _ _ (by simp)]
    exact row8 ((w.alloc (.cells #[.string ⟨#[]⟩, .int .i64 0] 130)).alloc (.cells #[.string ⟨#[]⟩, .string ⟨#[]⟩, .string ⟨#[]⟩, .string ⟨#[]⟩, .string ⟨#[83, 84, 89]⟩, .string ⟨#[76, 68, 89]⟩, .string ⟨#[67, 80, 89]⟩, .string ⟨#[67, 80, 88]⟩] 9)) (fun r => .int .i64 (zeroMode r)) 3 r hr (by simp)
  have hm : (((w.alloc (.cells #[.string ⟨#[]⟩, .int .i64 0] 130)).alloc (.cells #[.string ⟨#[]⟩, .string ⟨#[]⟩, .string ⟨#[]⟩, .string ⟨#[]⟩, .string ⟨#[83, 84, 89]⟩, .string ⟨#[76, 68, 89]⟩, .string ⟨#[67, 80, 89]⟩, .string ⟨#[67, 80, 88]⟩] 9)).alloc (.cells #[.int .i64 0, .int .i64 6, .int .i64 0, .int .i64 0, .int .i64 0, .int .i64 2, .int .i64 2, .int .i64 2] 3)).cell? ⟨w.heap.size + 1 + 1, r, none⟩ = some (.int .i64 (zeroMode r)) :=
    row8 ((w.alloc (.cells #[.string ⟨#[]⟩, .int .i64 0] 130)).alloc (.cells #[.string ⟨#[]⟩, .string ⟨#[]⟩, .string ⟨#[]⟩, .string ⟨#[]⟩, .string ⟨#[83, 84, 89]⟩, .string ⟨#[76, 68, 89]⟩, .string ⟨#[67, 80, 89]⟩, .string ⟨#[67, 80, 88]⟩] 9)) (fun r => .int .i64 (zeroMode r)) 3 r hr (by simp)
  have hZ : ((((w.alloc (.cells #[.string ⟨#[]⟩, .int .i64 0] 130)).alloc (.cells #[.string ⟨#[]⟩, .string ⟨#[]⟩, .string ⟨#[]⟩, .string ⟨#[]⟩, .string ⟨#[83, 84, 89]⟩, .string ⟨#[76, 68, 89]⟩, .string ⟨#[67, 80, 89]⟩, .string ⟨#[67, 80, 88]⟩] 9)).alloc (.cells #[.int .i64 0, .int .i64 6, .int .i64 0, .int .i64 0, .int .i64 0, .int .i64 2, .int .i64 2, .int .i64 2] 3)).alloc (.cells #[.string ⟨#[66, 82, 75]⟩, .string ⟨#[74, 83, 82]⟩, .string ⟨#[82, 84, 73]⟩, .string ⟨#[82, 84, 83]⟩, .string ⟨#[]⟩, .string ⟨#[76, 68, 89]⟩, .string ⟨#[67, 80, 89]⟩, .string ⟨#[67, 80, 88]⟩] 9)).cell? ⟨w.heap.size + 1 + 1 + 1, r, none⟩ = some (.string (opTx (zeroId r))) :=
    row8 (((w.alloc (.cells #[.string ⟨#[]⟩, .int .i64 0] 130)).alloc (.cells #[.string ⟨#[]⟩, .string ⟨#[]⟩, .string ⟨#[]⟩, .string ⟨#[]⟩, .string ⟨#[83, 84, 89]⟩, .string ⟨#[76, 68, 89]⟩, .string ⟨#[67, 80, 89]⟩, .string ⟨#[67, 80, 88]⟩] 9)).alloc (.cells #[.int .i64 0, .int .i64 6, .int .i64 0, .int .i64 0, .int .i64 0, .int .i64 2, .int .i64 2, .int .i64 2] 3)) (fun r => .string (opTx (zeroId r))) 9 r hr (by simp)
  have hr8 : 0 ≤ (r : Int) ∧ (r : Int) < 8 := by omega
  clear hr
  go_enter Try.func92, Try.ntmps92
  go_wp2
  go_region
  go_wp2
  refine bodyPost_ret (v := .agg #[.string (opTx (zeroId r)), .int .i64 (zeroMode r)]) (by simp [results, Try.results92, go_sem]) rfl ⟨rfl, ?_⟩
  repeat (any_goals (first | (with_reducible exact Below.refl _ _) | (with_reducible refine Below.drew ?_) | (with_reducible refine Below.alloc ?_ ?_ _)))
  all_goals (first | (simp; done) | (simp; omega))

set_option maxRecDepth 100000 in
theorem specZero_1o (r : Nat) (hr : r < 8) (h0 : ((r : Int) == 1) = false) (w : World) :
    Calls Try.prog 92 #[.int .i64 r, .int .i64 1] w fun e w' => e = .returned (.agg #[.string (opTx (lateId r)), .int .i64 (3)]) ∧ Below w.heap.size w w' := by
  have hL : ((w.alloc (.cells #[.string ⟨#[]⟩, .int .i64 0] 130)).alloc (.cells #[.string ⟨#[]⟩, .string ⟨#[]⟩, .string ⟨#[]⟩, .string ⟨#[]⟩, .string ⟨#[83, 84, 89]⟩, .string ⟨#[76, 68, 89]⟩, .string ⟨#[67, 80, 89]⟩, .string ⟨#[67, 80, 88]⟩] 9)).cell? ⟨w.heap.size + 1, r, none⟩ = some (.string (opTx (lateId r))) :=
    row8 (w.alloc (.cells #[.string ⟨#[]⟩, .int .i64 0] 130)) (fun r => .string (opTx (lateId r))) 9 r hr (by simp)
  have hr8 : 0 ≤ (r : Int) ∧ (r : Int) < 8 := by omega
  clear hr
  go_enter Try.func92, Try.ntmps92
  go_wp2
  refine bodyPost_ret (v := .agg #[.string (opTx (lateId r)), .int .i64 (3)]) (by simp [results, Try.results92, go_sem]) rfl ⟨rfl, ?_⟩
  repeat (any_goals (first | (with_reducible exact Below.refl _ _) | (with_reducible refine Below.drew ?_) | (with_reducible refine Below.alloc ?_ ?_ _)))
  all_goals (first | (simp; done) | (simp; omega))

set_option maxRecDepth 100000 in
theorem specZero_11 (w : World) :
    Calls Try.prog 92 #[.int .i64 1, .int .i64 1] w fun e w' => e = .returned (.agg #[.string (opTx (31)), .int .i64 (3)]) ∧ Below w.heap.size w w' := by
  go_enter Try.func92, Try.ntmps92
  go_wp2
  refine bodyPost_ret (v := .agg #[.string (opTx (31)), .int .i64 (3)]) (by simp [results, Try.results92, go_sem, opTx]) rfl ⟨rfl, ?_⟩
  repeat (any_goals (first | (with_reducible exact Below.refl _ _) | (with_reducible refine Below.drew ?_) | (with_reducible refine Below.alloc ?_ ?_ _)))
  all_goals (first | (simp; done) | (simp; omega))

set_option maxRecDepth 100000 in
theorem specZero_2 (r : Nat) (hr : r < 8) (w : World) :
    Calls Try.prog 92 #[.int .i64 r, .int .i64 2] w fun e w' => e = .returned (.agg #[.string (opTx (33 + r)), .int .i64 (0)]) ∧ Below w.heap.size w w' := by
  have hL : ((w.alloc (.cells #[.string ⟨#[]⟩, .int .i64 0] 130)).alloc (.cells #[.string ⟨#[]⟩, .string ⟨#[]⟩, .string ⟨#[]⟩, .string ⟨#[]⟩, .string ⟨#[83, 84, 89]⟩, .string ⟨#[76, 68, 89]⟩, .string ⟨#[67, 80, 89]⟩, .string ⟨#[67, 80, 88]⟩] 9)).cell? ⟨w.heap.size + 1, r, none⟩ = some (.string (opTx (lateId r))) :=
    row8 (w.alloc (.cells #[.string ⟨#[]⟩, .int .i64 0] 130)) (fun r => .string (opTx (lateId r))) 9 r hr (by simp)
  have hZ : (((w.alloc (.cells #[.string ⟨#[]⟩, .int .i64 0] 130)).alloc (.cells #[.string ⟨#[]⟩, .string ⟨#[]⟩, .string ⟨#[]⟩, .string ⟨#[]⟩, .string ⟨#[83, 84, 89]⟩, .string ⟨#[76, 68, 89]⟩, .string ⟨#[67, 80, 89]⟩, .string ⟨#[67, 80, 88]⟩] 9)).alloc (.cells #[.string ⟨#[80, 72, 80]⟩, .string ⟨#[80, 76, 80]⟩, .string ⟨#[80, 72, 65]⟩, .string ⟨#[80, 76, 65]⟩, .string ⟨#[68, 69, 89]⟩, .string ⟨#[84, 65, 89]⟩, .string ⟨#[73, 78, 89]⟩, .string ⟨#[73, 78, 88]⟩] 9)).cell? ⟨w.heap.size + 1 + 1, r, none⟩ = some (.string (opTx (33 + r))) :=
    row8 ((w.alloc (.cells #[.string ⟨#[]⟩, .int .i64 0] 130)).alloc (.cells #[.string ⟨#[]⟩, .string ⟨#[]⟩, .string ⟨#[]⟩, .string ⟨#[]⟩, .string ⟨#[83, 84, 89]⟩, .string ⟨#[76, 68, 89]⟩, .string ⟨#[67, 80, 89]⟩, .string ⟨#[67, 80, 88]⟩] 9)) (fun r => .string (opTx (33 + r))) 9 r hr (by simp)
  have hr8 : 0 ≤ (r : Int) ∧ (r : Int) < 8 := by omega
  clear hr
  go_enter Try.func92, Try.ntmps92
  go_wp2
  refine bodyPost_ret (v := .agg #[.string (opTx (33 + r)), .int .i64 (0)]) (by simp [results, Try.results92, go_sem]) rfl ⟨rfl, ?_⟩
  repeat (any_goals (first | (with_reducible exact Below.refl _ _) | (with_reducible refine Below.drew ?_) | (with_reducible refine Below.alloc ?_ ?_ _)))
  all_goals (first | (simp; done) | (simp; omega))

set_option maxRecDepth 100000 in
theorem specZero_4 (r : Nat) (hr : r < 8) (w : World) :
    Calls Try.prog 92 #[.int .i64 r, .int .i64 4] w fun e w' => e = .returned (.agg #[.string (opTx (41 + r)), .int .i64 (12)]) ∧ Below w.heap.size w w' := by
  have hL : ((w.alloc (.cells #[.string ⟨#[]⟩, .int .i64 0] 130)).alloc (.cells #[.string ⟨#[]⟩, .string ⟨#[]⟩, .string ⟨#[]⟩, .string ⟨#[]⟩, .string ⟨#[83, 84, 89]⟩, .string ⟨#[76, 68, 89]⟩, .string ⟨#[67, 80, 89]⟩, .string ⟨#[67, 80, 88]⟩] 9)).cell? ⟨w.heap.size + 1, r, none⟩ = some (.string (opTx (lateId r))) :=
    row8 (w.alloc (.cells #[.string ⟨#[]⟩, .int .i64 0] 130)) (fun r => .string (opTx (lateId r))) 9 r hr (by simp)
  have hZ : (((w.alloc (.cells #[.string ⟨#[]⟩, .int .i64 0] 130)).alloc (.cells #[.string ⟨#[]⟩, .string ⟨#[]⟩, .string ⟨#[]⟩, .string ⟨#[]⟩, .string ⟨#[83, 84, 89]⟩, .string ⟨#[76, 68, 89]⟩, .string ⟨#[67, 80, 89]⟩, .string ⟨#[67, 80, 88]⟩] 9)).alloc (.cells #[.string ⟨#[66, 80, 76]⟩, .string ⟨#[66, 77, 73]⟩, .string ⟨#[66, 86, 67]⟩, .string ⟨#[66, 86, 83]⟩, .string ⟨#[66, 67, 67]⟩, .string ⟨#[66, 67, 83]⟩, .string ⟨#[66, 78, 69]⟩, .string ⟨#[66, 69, 81]⟩] 9)).cell? ⟨w.heap.size + 1 + 1, r, none⟩ = some (.string (opTx (41 + r))) :=
    row8 ((w.alloc (.cells #[.string ⟨#[]⟩, .int .i64 0] 130)).alloc (.cells #[.string ⟨#[]⟩, .string ⟨#[]⟩, .string ⟨#[]⟩, .string ⟨#[]⟩, .string ⟨#[83, 84, 89]⟩, .string ⟨#[76, 68, 89]⟩, .string ⟨#[67, 80, 89]⟩, .string ⟨#[67, 80, 88]⟩] 9)) (fun r => .string (opTx (41 + r))) 9 r hr (by simp)
  have hr8 : 0 ≤ (r : Int) ∧ (r : Int) < 8 := by omega
  clear hr
  go_enter Try.func92, Try.ntmps92
  go_wp2
  refine bodyPost_ret (v := .agg #[.string (opTx (41 + r)), .int .i64 (12)]) (by simp [results, Try.results92, go_sem]) rfl ⟨rfl, ?_⟩
  repeat (any_goals (first | (with_reducible exact Below.refl _ _) | (with_reducible refine Below.drew ?_) | (with_reducible refine Below.alloc ?_ ?_ _)))
  all_goals (first | (simp; done) | (simp; omega))

set_option maxRecDepth 100000 in
theorem specZero_6 (r : Nat) (hr : r < 8) (w : World) :
    Calls Try.prog 92 #[.int .i64 r, .int .i64 6] w fun e w' => e = .returned (.agg #[.string (opTx (49 + r)), .int .i64 (0)]) ∧ Below w.heap.size w w' := by
  have hL : ((w.alloc (.cells #[.string ⟨#[]⟩, .int .i64 0] 130)).alloc (.cells #[.string ⟨#[]⟩, .string ⟨#[]⟩, .string ⟨#[]⟩, .string ⟨#[]⟩, .string ⟨#[83, 84, 89]⟩, .string ⟨#[76, 68, 89]⟩, .string ⟨#[67, 80, 89]⟩, .string ⟨#[67, 80, 88]⟩] 9)).cell? ⟨w.heap.size + 1, r, none⟩ = some (.string (opTx (lateId r))) :=
    row8 (w.alloc (.cells #[.string ⟨#[]⟩, .int .i64 0] 130)) (fun r => .string (opTx (lateId r))) 9 r hr (by simp)
  have hZ : (((w.alloc (.cells #[.string ⟨#[]⟩, .int .i64 0] 130)).alloc (.cells #[.string ⟨#[]⟩, .string ⟨#[]⟩, .string ⟨#[]⟩, .string ⟨#[]⟩, .string ⟨#[83, 84, 89]⟩, .string ⟨#[76, 68, 89]⟩, .string ⟨#[67, 80, 89]⟩, .string ⟨#[67, 80, 88]⟩] 9)).alloc (.cells #[.string ⟨#[67, 76, 67]⟩, .string ⟨#[83, 69, 67]⟩, .string ⟨#[67, 76, 73]⟩, .string ⟨#[83, 69, 73]⟩, .string ⟨#[84, 89, 65]⟩, .string ⟨#[67, 76, 86]⟩, .string ⟨#[67, 76, 68]⟩, .string ⟨#[83, 69, 68]⟩] 9)).cell? ⟨w.heap.size + 1 + 1, r, none⟩ = some (.string (opTx (49 + r))) :=
    row8 ((w.alloc (.cells #[.string ⟨#[]⟩, .int .i64 0] 130)).alloc (.cells #[.string ⟨#[]⟩, .string ⟨#[]⟩, .string ⟨#[]⟩, .string ⟨#[]⟩, .string ⟨#[83, 84, 89]⟩, .string ⟨#[76, 68, 89]⟩, .string ⟨#[67, 80, 89]⟩, .string ⟨#[67, 80, 88]⟩] 9)) (fun r => .string (opTx (49 + r))) 9 r hr (by simp)
  have hr8 : 0 ≤ (r : Int) ∧ (r : Int) < 8 := by omega
  clear hr
  go_enter Try.func92, Try.ntmps92
  go_wp2
  refine bodyPost_ret (v := .agg #[.string (opTx (49 + r)), .int .i64 (0)]) (by simp [results, Try.results92, go_sem]) rfl ⟨rfl, ?_⟩
  repeat (any_goals (first | (with_reducible exact Below.refl _ _) | (with_reducible refine Below.drew ?_) | (with_reducible refine Below.alloc ?_ ?_ _)))
  all_goals (first | (simp; done) | (simp; omega))

set_option maxRecDepth 100000 in
theorem specZero_3o (r : Nat) (hr : r < 8) (h0 : ((r : Int) == 1) = false) (h1 : ((r : Int) == 2) = false) (h2 : ((r : Int) == 3) = false) (w : World) :
    Calls Try.prog 92 #[.int .i64 r, .int .i64 3] w fun e w' => e = .returned (.agg #[.string (opTx (lateId r)), .int .i64 (6)]) ∧ Below w.heap.size w w' := by
  have hL : ((w.alloc (.cells #[.string ⟨#[]⟩, .int .i64 0] 130)).alloc (.cells #[.string ⟨#[]⟩, .string ⟨#[]⟩, .string ⟨#[]⟩, .string ⟨#[]⟩, .string ⟨#[83, 84, 89]⟩, .string ⟨#[76, 68, 89]⟩, .string ⟨#[67, 80, 89]⟩, .string ⟨#[67, 80, 88]⟩] 9)).cell? ⟨w.heap.size + 1, r, none⟩ = some (.string (opTx (lateId r))) :=
    row8 (w.alloc (.cells #[.string ⟨#[]⟩, .int .i64 0] 130)) (fun r => .string (opTx (lateId r))) 9 r hr (by simp)
  have hr8 : 0 ≤ (r : Int) ∧ (r : Int) < 8 := by omega
  clear hr
  go_enter Try.func92, Try.ntmps92
  go_wp2
  refine bodyPost_ret (v := .agg #[.string (opTx (lateId r)), .int .i64 (6)]) (by simp [results, Try.results92, go_sem]) rfl ⟨rfl, ?_⟩
  repeat (any_goals (first | (with_reducible exact Below.refl _ _) | (with_reducible refine Below.drew ?_) | (with_reducible refine Below.alloc ?_ ?_ _)))
  all_goals (first | (simp; done) | (simp; omega))

set_option maxRecDepth 100000 in
theorem specZero_31 (w : World) :
    Calls Try.prog 92 #[.int .i64 1, .int .i64 3] w fun e w' => e = .returned (.agg #[.string (opTx (31)), .int .i64 (6)]) ∧ Below w.heap.size w w' := by
  go_enter Try.func92, Try.ntmps92
  go_wp2
  refine bodyPost_ret (v := .agg #[.string (opTx (31)), .int .i64 (6)]) (by simp [results, Try.results92, go_sem, opTx]) rfl ⟨rfl, ?_⟩
  repeat (any_goals (first | (with_reducible exact Below.refl _ _) | (with_reducible refine Below.drew ?_) | (with_reducible refine Below.alloc ?_ ?_ _)))
  all_goals (first | (simp; done) | (simp; omega))

set_option maxRecDepth 100000 in
theorem specZero_32 (w : World) :
    Calls Try.prog 92 #[.int .i64 2, .int .i64 3] w fun e w' => e = .returned (.agg #[.string (opTx (32)), .int .i64 (6)]) ∧ Below w.heap.size w w' := by
  go_enter Try.func92, Try.ntmps92
  go_wp2
  refine bodyPost_ret (v := .agg #[.string (opTx (32)), .int .i64 (6)]) (by simp [results, Try.results92, go_sem, opTx]) rfl ⟨rfl, ?_⟩
  repeat (any_goals (first | (with_reducible exact Below.refl _ _) | (with_reducible refine Below.drew ?_) | (with_reducible refine Below.alloc ?_ ?_ _)))
  all_goals (first | (simp; done) | (simp; omega))

set_option maxRecDepth 100000 in
theorem specZero_33 (w : World) :
    Calls Try.prog 92 #[.int .i64 3, .int .i64 3] w fun e w' => e = .returned (.agg #[.string (opTx (32)), .int .i64 (9)]) ∧ Below w.heap.size w w' := by
  go_enter Try.func92, Try.ntmps92
  go_wp2
  refine bodyPost_ret (v := .agg #[.string (opTx (32)), .int .i64 (9)]) (by simp [results, Try.results92, go_sem, opTx]) rfl ⟨rfl, ?_⟩
  repeat (any_goals (first | (with_reducible exact Below.refl _ _) | (with_reducible refine Below.drew ?_) | (with_reducible refine Below.alloc ?_ ?_ _)))
  all_goals (first | (simp; done) | (simp; omega))

set_option maxRecDepth 100000 in
theorem specZero_5o (r : Nat) (hr : r < 8) (h0 : ((r : Int) == 4) = false) (h1 : ((r : Int) == 5) = false) (w : World) :
    Calls Try.prog 92 #[.int .i64 r, .int .i64 5] w fun e w' => e = .returned (.agg #[.string (opTx (0)), .int .i64 (0)]) ∧ Below w.heap.size w w' := by
  have hL : ((w.alloc (.cells #[.string ⟨#[]⟩, .int .i64 0] 130)).alloc (.cells #[.string ⟨#[]⟩, .string ⟨#[]⟩, .string ⟨#[]⟩, .string ⟨#[]⟩, .string ⟨#[83, 84, 89]⟩, .string ⟨#[76, 68, 89]⟩, .string ⟨#[67, 80, 89]⟩, .string ⟨#[67, 80, 88]⟩] 9)).cell? ⟨w.heap.size + 1, r, none⟩ = some (.string (opTx (lateId r))) :=
    row8 (w.alloc (.cells #[.string ⟨#[]⟩, .int .i64 0] 130)) (fun r => .string (opTx (lateId r))) 9 r hr (by simp)
  have hr8 : 0 ≤ (r : Int) ∧ (r : Int) < 8 := by omega
  clear hr
  go_enter Try.func92, Try.ntmps92
  go_wp2
  refine bodyPost_ret (v := .agg #[.string (opTx (0)), .int .i64 (0)]) (by simp [results, Try.results92, go_sem, opTx]) rfl ⟨rfl, ?_⟩
  repeat (any_goals (first | (with_reducible exact Below.refl _ _) | (with_reducible refine Below.drew ?_) | (with_reducible refine Below.alloc ?_ ?_ _)))
  all_goals (first | (simp; done) | (simp; omega))

set_option maxRecDepth 100000 in
theorem specZero_54 (w : World) :
    Calls Try.prog 92 #[.int .i64 4, .int .i64 5] w fun e w' => e = .returned (.agg #[.string (opTx (23)), .int .i64 (4)]) ∧ Below w.heap.size w w' := by
  go_enter Try.func92, Try.ntmps92
  go_wp2
  refine bodyPost_ret (v := .agg #[.string (opTx (23)), .int .i64 (4)]) (by simp [results, Try.results92, go_sem, opTx]) rfl ⟨rfl, ?_⟩
  repeat (any_goals (first | (with_reducible exact Below.refl _ _) | (with_reducible refine Below.drew ?_) | (with_reducible refine Below.alloc ?_ ?_ _)))
  all_goals (first | (simp; done) | (simp; omega))

set_option maxRecDepth 100000 in
theorem specZero_55 (w : World) :
    Calls Try.prog 92 #[.int .i64 5, .int .i64 5] w fun e w' => e = .returned (.agg #[.string (opTx (24)), .int .i64 (4)]) ∧ Below w.heap.size w w' := by
  go_enter Try.func92, Try.ntmps92
  go_wp2
  refine bodyPost_ret (v := .agg #[.string (opTx (24)), .int .i64 (4)]) (by simp [results, Try.results92, go_sem, opTx]) rfl ⟨rfl, ?_⟩
  repeat (any_goals (first | (with_reducible exact Below.refl _ _) | (with_reducible refine Below.drew ?_) | (with_reducible refine Below.alloc ?_ ?_ _)))
  all_goals (first | (simp; done) | (simp; omega))

set_option maxRecDepth 100000 in
theorem specZero_7o (r : Nat) (hr : r < 8) (h0 : ((r : Int) == 5) = false) (w : World) :
    Calls Try.prog 92 #[.int .i64 r, .int .i64 7] w fun e w' => e = .returned (.agg #[.string (opTx (0)), .int .i64 (0)]) ∧ Below w.heap.size w w' := by
  have hL : ((w.alloc (.cells #[.string ⟨#[]⟩, .int .i64 0] 130)).alloc (.cells #[.string ⟨#[]⟩, .string ⟨#[]⟩, .string ⟨#[]⟩, .string ⟨#[]⟩, .string ⟨#[83, 84, 89]⟩, .string ⟨#[76, 68, 89]⟩, .string ⟨#[67, 80, 89]⟩, .string ⟨#[67, 80, 88]⟩] 9)).cell? ⟨w.heap.size + 1, r, none⟩ = some (.string (opTx (lateId r))) :=
    row8 (w.alloc (.cells #[.string ⟨#[]⟩, .int .i64 0] 130)) (fun r => .string (opTx (lateId r))) 9 r hr (by simp)
  have hr8 : 0 ≤ (r : Int) ∧ (r : Int) < 8 := by omega
  clear hr
  go_enter Try.func92, Try.ntmps92
  go_wp2
  refine bodyPost_ret (v := .agg #[.string (opTx (0)), .int .i64 (0)]) (by simp [results, Try.results92, go_sem, opTx]) rfl ⟨rfl, ?_⟩
  repeat (any_goals (first | (with_reducible exact Below.refl _ _) | (with_reducible refine Below.drew ?_) | (with_reducible refine Below.alloc ?_ ?_ _)))
  all_goals (first | (simp; done) | (simp; omega))

set_option maxRecDepth 100000 in
theorem specZero_75 (w : World) :
    Calls Try.prog 92 #[.int .i64 5, .int .i64 7] w fun e w' => e = .returned (.agg #[.string (opTx (24)), .int .i64 (7)]) ∧ Below w.heap.size w w' := by
  go_enter Try.func92, Try.ntmps92
  go_wp2
  refine bodyPost_ret (v := .agg #[.string (opTx (24)), .int .i64 (7)]) (by simp [results, Try.results92, go_sem, opTx]) rfl ⟨rfl, ?_⟩
  repeat (any_goals (first | (with_reducible exact Below.refl _ _) | (with_reducible refine Below.drew ?_) | (with_reducible refine Below.alloc ?_ ?_ _)))
  all_goals (first | (simp; done) | (simp; omega))

theorem specZero_any (r p : Nat) (hr : r < 8) (hp : p < 8) (w : World) :
    Calls Try.prog 92 #[.int .i64 r, .int .i64 p] w fun e w' => e = .returned (.agg #[.string (opTx (sideZeroI r p)), .int .i64 (sideZeroM r p)]) ∧ Below w.heap.size w w' := by
  rcases p with _ | _ | _ | _ | _ | _ | _ | _ | p
  · exact specZero_0 r hr w
  · by_cases h1 : r = 1
    · subst h1; exact specZero_11 w
    · simpa [sideZeroI, sideZeroM, h1] using specZero_1o r hr (by simp; omega) w
  · exact specZero_2 r hr w
  · by_cases h1 : r = 1
    · subst h1; exact specZero_31 w
    by_cases h2 : r = 2
    · subst h2; exact specZero_32 w
    by_cases h3 : r = 3
    · subst h3; exact specZero_33 w
    simpa [sideZeroI, sideZeroM, h1, h2, h3] using specZero_3o r hr (by simp; omega) (by simp; omega) (by simp; omega) w
  · exact specZero_4 r hr w
  · by_cases h4 : r = 4
    · subst h4; exact specZero_54 w
    by_cases h5 : r = 5
    · subst h5; exact specZero_55 w
    simpa [sideZeroI, sideZeroM, h4, h5] using specZero_5o r hr (by simp; omega) (by simp; omega) w
  · exact specZero_6 r hr w
  · by_cases h5 : r = 5
    · subst h5; exact specZero_75 w
    simpa [sideZeroI, sideZeroM, h5] using specZero_7o r hr (by simp; omega) w
  · omega

end Go.Proofs.Ytckfdbjjjgfbfaa
