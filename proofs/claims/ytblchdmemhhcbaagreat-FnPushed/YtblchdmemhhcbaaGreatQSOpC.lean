/-
  Contracts over the program: the model's operation of any byte (l03Of), its name, mode, size, kind, and the byte of a name and mode.
-/
import Derived.Test.YtblchdmemhhcbaaGreatQSOpA
namespace Go.Proofs.YtblchdmemhhcbaaGreat
set_option linter.unusedVariables false
set_option linter.unusedSimpArgs false
open Go.RowKit

set_option maxRecDepth 100000 in
theorem specZero_0 (r : Nat) (hr : r < 8) (w : World) :
    Calls Tryz.prog 124 #[.int .i64 r, .int .i64 0] w fun e w' => e = .returned (.agg #[.string (opTx (zeroId r)), .int .i64 (zeroMode r)]) ∧ Below w.heap.size w w' := by
  have hL : ((w.alloc (.cells #[.string ⟨#[]⟩, .int .i64 0] 123)).alloc (.cells #[.string ⟨#[]⟩, .string ⟨#[]⟩, .string ⟨#[]⟩, .string ⟨#[]⟩, .string ⟨#[83, 84, 89]⟩, .string ⟨#[76, 68, 89]⟩, .string ⟨#[67, 80, 89]⟩, .string ⟨#[67, 80, 88]⟩] 9)).cell? ⟨w.heap.size + 1, r, none⟩ = some (.string (opTx (lateId r))) :=
    row8 (w.alloc (.cells #[.string ⟨#[]⟩, .int .i64 0] 123)) (fun r => .string (opTx (lateId r))) 9 r hr (by simp)
  have hM : ((((w.alloc (.cells #[.string ⟨#[]⟩, .int .i64 0] 123)).alloc (.cells #[.string ⟨#[]⟩, .string ⟨#[]⟩, .string ⟨#[]⟩, .string ⟨#[]⟩, .string ⟨#[83, 84, 89]⟩, .string ⟨#[76, 68, 89]⟩, .string ⟨#[67, 80, 89]⟩, .string ⟨#[67, 80, 88]⟩] 9)).alloc (.cells #[.int .i64 0, .int .i64 6, .int .i64 0, .int .i64 0, .int .i64 0, .int .i64 2, .int .i64 2, .int .i64 2] 3)).alloc (.cells #[.string ⟨#[66, 82, 75]⟩, .string ⟨#[74, 83, 82]⟩, .string ⟨#[82, 84, 73]⟩, .string ⟨#[82, 84, 83]⟩, .string ⟨#[]⟩, .string ⟨#[76, 68, 89]⟩, .string ⟨#[67, 80, 89]⟩, .string ⟨#[67, 80, 88]⟩] 9)).cell? ⟨w.heap.size + 1 + 1, r, none⟩ = some (.int .i64 (zeroMode r)) := by
    rw [World.cell?_alloc_past _ _ _ (by simp)]
    exact row8 ((w.alloc (.cells #[.string ⟨#[]⟩, .int .i64 0] 123)).alloc (.cells #[.string ⟨#[]⟩, .string ⟨#[]⟩, .string ⟨#[]⟩, .string ⟨#[]⟩, .string ⟨#[83, 84, 89]⟩, .string ⟨#[76, 68, 89]⟩, .string ⟨#[67, 80, 89]⟩, .string ⟨#[67, 80, 88]⟩] 9)) (fun r => .int .i64 (zeroMode r)) 3 r hr (by simp)
  have hm : (((w.alloc (.cells #[.string ⟨#[]⟩, .int .i64 0] 123)).alloc (.cells #[.string ⟨#[]⟩, .string ⟨#[]⟩, .string ⟨#[]⟩, .string ⟨#[]⟩, .string ⟨#[83, 84, 89]⟩, .string ⟨#[76, 68, 89]⟩, .string ⟨#[67, 80, 89]⟩, .string ⟨#[67, 80, 88]⟩] 9)).alloc (.cells #[.int .i64 0, .int .i64 6, .int .i64 0, .int .i64 0, .int .i64 0, .int .i64 2, .int .i64 2, .int .i64 2] 3)).cell? ⟨w.heap.size + 1 + 1, r, none⟩ = some (.int .i64 (zeroMode r)) :=
    row8 ((w.alloc (.cells #[.string ⟨#[]⟩, .int .i64 0] 123)).alloc (.cells #[.string ⟨#[]⟩, .string ⟨#[]⟩, .string ⟨#[]⟩, .string ⟨#[]⟩, .string ⟨#[83, 84, 89]⟩, .string ⟨#[76, 68, 89]⟩, .string ⟨#[67, 80, 89]⟩, .string ⟨#[67, 80, 88]⟩] 9)) (fun r => .int .i64 (zeroMode r)) 3 r hr (by simp)
  have hZ : ((((w.alloc (.cells #[.string ⟨#[]⟩, .int .i64 0] 123)).alloc (.cells #[.string ⟨#[]⟩, .string ⟨#[]⟩, .string ⟨#[]⟩, .string ⟨#[]⟩, .string ⟨#[83, 84, 89]⟩, .string ⟨#[76, 68, 89]⟩, .string ⟨#[67, 80, 89]⟩, .string ⟨#[67, 80, 88]⟩] 9)).alloc (.cells #[.int .i64 0, .int .i64 6, .int .i64 0, .int .i64 0, .int .i64 0, .int .i64 2, .int .i64 2, .int .i64 2] 3)).alloc (.cells #[.string ⟨#[66, 82, 75]⟩, .string ⟨#[74, 83, 82]⟩, .string ⟨#[82, 84, 73]⟩, .string ⟨#[82, 84, 83]⟩, .string ⟨#[]⟩, .string ⟨#[76, 68, 89]⟩, .string ⟨#[67, 80, 89]⟩, .string ⟨#[67, 80, 88]⟩] 9)).cell? ⟨w.heap.size + 1 + 1 + 1, r, none⟩ = some (.string (opTx (zeroId r))) :=
    row8 (((w.alloc (.cells #[.string ⟨#[]⟩, .int .i64 0] 123)).alloc (.cells #[.string ⟨#[]⟩, .string ⟨#[]⟩, .string ⟨#[]⟩, .string ⟨#[]⟩, .string ⟨#[83, 84, 89]⟩, .string ⟨#[76, 68, 89]⟩, .string ⟨#[67, 80, 89]⟩, .string ⟨#[67, 80, 88]⟩] 9)).alloc (.cells #[.int .i64 0, .int .i64 6, .int .i64 0, .int .i64 0, .int .i64 0, .int .i64 2, .int .i64 2, .int .i64 2] 3)) (fun r => .string (opTx (zeroId r))) 9 r hr (by simp)
  have hr8 : 0 ≤ (r : Int) ∧ (r : Int) < 8 := by omega
  clear hr
  go_enter Tryz.func124, Tryz.ntmps124
  go_wp2
  go_region
  go_wp2
  refine bodyPost_ret (v := .agg #[.string (opTx (zeroId r)), .int .i64 (zeroMode r)]) (by simp [results, Tryz.results124, go_sem]) rfl ⟨rfl, ?_⟩
  repeat (any_goals (first | (with_reducible exact Below.refl _ _) | (with_reducible refine Below.drew ?_) | (with_reducible refine Below.alloc ?_ ?_ _)))
  all_goals (first | (simp; done) | (simp; omega))

set_option maxRecDepth 100000 in
theorem specZero_1o (r : Nat) (hr : r < 8) (h0 : ((r : Int) == 1) = false) (w : World) :
    Calls Tryz.prog 124 #[.int .i64 r, .int .i64 1] w fun e w' => e = .returned (.agg #[.string (opTx (lateId r)), .int .i64 (3)]) ∧ Below w.heap.size w w' := by
  have hL : ((w.alloc (.cells #[.string ⟨#[]⟩, .int .i64 0] 123)).alloc (.cells #[.string ⟨#[]⟩, .string ⟨#[]⟩, .string ⟨#[]⟩, .string ⟨#[]⟩, .string ⟨#[83, 84, 89]⟩, .string ⟨#[76, 68, 89]⟩, .string ⟨#[67, 80, 89]⟩, .string ⟨#[67, 80, 88]⟩] 9)).cell? ⟨w.heap.size + 1, r, none⟩ = some (.string (opTx (lateId r))) :=
    row8 (w.alloc (.cells #[.string ⟨#[]⟩, .int .i64 0] 123)) (fun r => .string (opTx (lateId r))) 9 r hr (by simp)
  have hr8 : 0 ≤ (r : Int) ∧ (r : Int) < 8 := by omega
  clear hr
  go_enter Tryz.func124, Tryz.ntmps124
  go_wp2
  refine bodyPost_ret (v := .agg #[.string (opTx (lateId r)), .int .i64 (3)]) (by simp [results, Tryz.results124, go_sem]) rfl ⟨rfl, ?_⟩
  repeat (any_goals (first | (with_reducible exact Below.refl _ _) | (with_reducible refine Below.drew ?_) | (with_reducible refine Below.alloc ?_ ?_ _)))
  all_goals (first | (simp; done) | (simp; omega))

set_option maxRecDepth 100000 in
theorem specZero_11 (w : World) :
    Calls Tryz.prog 124 #[.int .i64 1, .int .i64 1] w fun e w' => e = .returned (.agg #[.string (opTx (31)), .int .i64 (3)]) ∧ Below w.heap.size w w' := by
  go_enter Tryz.func124, Tryz.ntmps124
  go_wp2
  refine bodyPost_ret (v := .agg #[.string (opTx (31)), .int .i64 (3)]) (by simp [results, Tryz.results124, go_sem, opTx]) rfl ⟨rfl, ?_⟩
  repeat (any_goals (first | (with_reducible exact Below.refl _ _) | (with_reducible refine Below.drew ?_) | (with_reducible refine Below.alloc ?_ ?_ _)))
  all_goals (first | (simp; done) | (simp; omega))

set_option maxRecDepth 100000 in
theorem specZero_2 (r : Nat) (hr : r < 8) (w : World) :
    Calls Tryz.prog 124 #[.int .i64 r, .int .i64 2] w fun e w' => e = .returned (.agg #[.string (opTx (33 + r)), .int .i64 (0)]) ∧ Below w.heap.size w w' := by
  have hL : ((w.alloc (.cells #[.string ⟨#[]⟩, .int .i64 0] 123)).alloc (.cells #[.string ⟨#[]⟩, .string ⟨#[]⟩, .string ⟨#[]⟩, .string ⟨#[]⟩, .string ⟨#[83, 84, 89]⟩, .string ⟨#[76, 68, 89]⟩, .string ⟨#[67, 80, 89]⟩, .string ⟨#[67, 80, 88]⟩] 9)).cell? ⟨w.heap.size + 1, r, none⟩ = some (.string (opTx (lateId r))) :=
    row8 (w.alloc (.cells #[.string ⟨#[]⟩, .int .i64 0] 123)) (fun r => .string (opTx (lateId r))) 9 r hr (by simp)
  have hZ : (((w.alloc (.cells #[.string ⟨#[]⟩, .int .i64 0] 123)).alloc (.cells #[.string ⟨#[]⟩, .string ⟨#[]⟩, .string ⟨#[]⟩, .string ⟨#[]⟩, .string ⟨#[83, 84, 89]⟩, .string ⟨#[76, 68, 89]⟩, .string ⟨#[67, 80, 89]⟩, .string ⟨#[67, 80, 88]⟩] 9)).alloc (.cells #[.string ⟨#[80, 72, 80]⟩, .string ⟨#[80, 76, 80]⟩, .string ⟨#[80, 72, 65]⟩, .string ⟨#[80, 76, 65]⟩, .string ⟨#[68, 69, 89]⟩, .string ⟨#[84, 65, 89]⟩, .string ⟨#[73, 78, 89]⟩, .string ⟨#[73, 78, 88]⟩] 9)).cell? ⟨w.heap.size + 1 + 1, r, none⟩ = some (.string (opTx (33 + r))) :=
    row8 ((w.alloc (.cells #[.string ⟨#[]⟩, .int .i64 0] 123)).alloc (.cells #[.string ⟨#[]⟩, .string ⟨#[]⟩, .string ⟨#[]⟩, .string ⟨#[]⟩, .string ⟨#[83, 84, 89]⟩, .string ⟨#[76, 68, 89]⟩, .string ⟨#[67, 80, 89]⟩, .string ⟨#[67, 80, 88]⟩] 9)) (fun r => .string (opTx (33 + r))) 9 r hr (by simp)
  have hr8 : 0 ≤ (r : Int) ∧ (r : Int) < 8 := by omega
  clear hr
  go_enter Tryz.func124, Tryz.ntmps124
  go_wp2
  refine bodyPost_ret (v := .agg #[.string (opTx (33 + r)), .int .i64 (0)]) (by simp [results, Tryz.results124, go_sem]) rfl ⟨rfl, ?_⟩
  repeat (any_goals (first | (with_reducible exact Below.refl _ _) | (with_reducible refine Below.drew ?_) | (with_reducible refine Below.alloc ?_ ?_ _)))
  all_goals (first | (simp; done) | (simp; omega))

set_option maxRecDepth 100000 in
theorem specZero_4 (r : Nat) (hr : r < 8) (w : World) :
    Calls Tryz.prog 124 #[.int .i64 r, .int .i64 4] w fun e w' => e = .returned (.agg #[.string (opTx (41 + r)), .int .i64 (12)]) ∧ Below w.heap.size w w' := by
  have hL : ((w.alloc (.cells #[.string ⟨#[]⟩, .int .i64 0] 123)).alloc (.cells #[.string ⟨#[]⟩, .string ⟨#[]⟩, .string ⟨#[]⟩, .string ⟨#[]⟩, .string ⟨#[83, 84, 89]⟩, .string ⟨#[76, 68, 89]⟩, .string ⟨#[67, 80, 89]⟩, .string ⟨#[67, 80, 88]⟩] 9)).cell? ⟨w.heap.size + 1, r, none⟩ = some (.string (opTx (lateId r))) :=
    row8 (w.alloc (.cells #[.string ⟨#[]⟩, .int .i64 0] 123)) (fun r => .string (opTx (lateId r))) 9 r hr (by simp)
  have hZ : (((w.alloc (.cells #[.string ⟨#[]⟩, .int .i64 0] 123)).alloc (.cells #[.string ⟨#[]⟩, .string ⟨#[]⟩, .string ⟨#[]⟩, .string ⟨#[]⟩, .string ⟨#[83, 84, 89]⟩, .string ⟨#[76, 68, 89]⟩, .string ⟨#[67, 80, 89]⟩, .string ⟨#[67, 80, 88]⟩] 9)).alloc (.cells #[.string ⟨#[66, 80, 76]⟩, .string ⟨#[66, 77, 73]⟩, .string ⟨#[66, 86, 67]⟩, .string ⟨#[66, 86, 83]⟩, .string ⟨#[66, 67, 67]⟩, .string ⟨#[66, 67, 83]⟩, .string ⟨#[66, 78, 69]⟩, .string ⟨#[66, 69, 81]⟩] 9)).cell? ⟨w.heap.size + 1 + 1, r, none⟩ = some (.string (opTx (41 + r))) :=
    row8 ((w.alloc (.cells #[.string ⟨#[]⟩, .int .i64 0] 123)).alloc (.cells #[.string ⟨#[]⟩, .string ⟨#[]⟩, .string ⟨#[]⟩, .string ⟨#[]⟩, .string ⟨#[83, 84, 89]⟩, .string ⟨#[76, 68, 89]⟩, .string ⟨#[67, 80, 89]⟩, .string ⟨#[67, 80, 88]⟩] 9)) (fun r => .string (opTx (41 + r))) 9 r hr (by simp)
  have hr8 : 0 ≤ (r : Int) ∧ (r : Int) < 8 := by omega
  clear hr
  go_enter Tryz.func124, Tryz.ntmps124
  go_wp2
  refine bodyPost_ret (v := .agg #[.string (opTx (41 + r)), .int .i64 (12)]) (by simp [results, Tryz.results124, go_sem]) rfl ⟨rfl, ?_⟩
  repeat (any_goals (first | (with_reducible exact Below.refl _ _) | (with_reducible refine Below.drew ?_) | (with_reducible refine Below.alloc ?_ ?_ _)))
  all_goals (first | (simp; done) | (simp; omega))

set_option maxRecDepth 100000 in
theorem specZero_6 (r : Nat) (hr : r < 8) (w : World) :
    Calls Tryz.prog 124 #[.int .i64 r, .int .i64 6] w fun e w' => e = .returned (.agg #[.string (opTx (49 + r)), .int .i64 (0)]) ∧ Below w.heap.size w w' := by
  have hL : ((w.alloc (.cells #[.string ⟨#[]⟩, .int .i64 0] 123)).alloc (.cells #[.string ⟨#[]⟩, .string ⟨#[]⟩, .string ⟨#[]⟩, .string ⟨#[]⟩, .string ⟨#[83, 84, 89]⟩, .string ⟨#[76, 68, 89]⟩, .string ⟨#[67, 80, 89]⟩, .string ⟨#[67, 80, 88]⟩] 9)).cell? ⟨w.heap.size + 1, r, none⟩ = some (.string (opTx (lateId r))) :=
    row8 (w.alloc (.cells #[.string ⟨#[]⟩, .int .i64 0] 123)) (fun r => .string (opTx (lateId r))) 9 r hr (by simp)
  have hZ : (((w.alloc (.cells #[.string ⟨#[]⟩, .int .i64 0] 123)).alloc (.cells #[.string ⟨#[]⟩, .string ⟨#[]⟩, .string ⟨#[]⟩, .string ⟨#[]⟩, .string ⟨#[83, 84, 89]⟩, .string ⟨#[76, 68, 89]⟩, .string ⟨#[67, 80, 89]⟩, .string ⟨#[67, 80, 88]⟩] 9)).alloc (.cells #[.string ⟨#[67, 76, 67]⟩, .string ⟨#[83, 69, 67]⟩, .string ⟨#[67, 76, 73]⟩, .string ⟨#[83, 69, 73]⟩, .string ⟨#[84, 89, 65]⟩, .string ⟨#[67, 76, 86]⟩, .string ⟨#[67, 76, 68]⟩, .string ⟨#[83, 69, 68]⟩] 9)).cell? ⟨w.heap.size + 1 + 1, r, none⟩ = some (.string (opTx (49 + r))) :=
    row8 ((w.alloc (.cells #[.string ⟨#[]⟩, .int .i64 0] 123)).alloc (.cells #[.string ⟨#[]⟩, .string ⟨#[]⟩, .string ⟨#[]⟩, .string ⟨#[]⟩, .string ⟨#[83, 84, 89]⟩, .string ⟨#[76, 68, 89]⟩, .string ⟨#[67, 80, 89]⟩, .string ⟨#[67, 80, 88]⟩] 9)) (fun r => .string (opTx (49 + r))) 9 r hr (by simp)
  have hr8 : 0 ≤ (r : Int) ∧ (r : Int) < 8 := by omega
  clear hr
  go_enter Tryz.func124, Tryz.ntmps124
  go_wp2
  refine bodyPost_ret (v := .agg #[.string (opTx (49 + r)), .int .i64 (0)]) (by simp [results, Tryz.results124, go_sem]) rfl ⟨rfl, ?_⟩
  repeat (any_goals (first | (with_reducible exact Below.refl _ _) | (with_reducible refine Below.drew ?_) | (with_reducible refine Below.alloc ?_ ?_ _)))
  all_goals (first | (simp; done) | (simp; omega))

set_option maxRecDepth 100000 in
theorem specZero_3o (r : Nat) (hr : r < 8) (h0 : ((r : Int) == 1) = false) (h1 : ((r : Int) == 2) = false) (h2 : ((r : Int) == 3) = false) (w : World) :
    Calls Tryz.prog 124 #[.int .i64 r, .int .i64 3] w fun e w' => e = .returned (.agg #[.string (opTx (lateId r)), .int .i64 (6)]) ∧ Below w.heap.size w w' := by
  have hL : ((w.alloc (.cells #[.string ⟨#[]⟩, .int .i64 0] 123)).alloc (.cells #[.string ⟨#[]⟩, .string ⟨#[]⟩, .string ⟨#[]⟩, .string ⟨#[]⟩, .string ⟨#[83, 84, 89]⟩, .string ⟨#[76, 68, 89]⟩, .string ⟨#[67, 80, 89]⟩, .string ⟨#[67, 80, 88]⟩] 9)).cell? ⟨w.heap.size + 1, r, none⟩ = some (.string (opTx (lateId r))) :=
    row8 (w.alloc (.cells #[.string ⟨#[]⟩, .int .i64 0] 123)) (fun r => .string (opTx (lateId r))) 9 r hr (by simp)
  have hr8 : 0 ≤ (r : Int) ∧ (r : Int) < 8 := by omega
  clear hr
  go_enter Tryz.func124, Tryz.ntmps124
  go_wp2
  refine bodyPost_ret (v := .agg #[.string (opTx (lateId r)), .int .i64 (6)]) (by simp [results, Tryz.results124, go_sem]) rfl ⟨rfl, ?_⟩
  repeat (any_goals (first | (with_reducible exact Below.refl _ _) | (with_reducible refine Below.drew ?_) | (with_reducible refine Below.alloc ?_ ?_ _)))
  all_goals (first | (simp; done) | (simp; omega))

set_option maxRecDepth 100000 in
theorem specZero_31 (w : World) :
    Calls Tryz.prog 124 #[.int .i64 1, .int .i64 3] w fun e w' => e = .returned (.agg #[.string (opTx (31)), .int .i64 (6)]) ∧ Below w.heap.size w w' := by
  go_enter Tryz.func124, Tryz.ntmps124
  go_wp2
  refine bodyPost_ret (v := .agg #[.string (opTx (31)), .int .i64 (6)]) (by simp [results, Tryz.results124, go_sem, opTx]) rfl ⟨rfl, ?_⟩
  repeat (any_goals (first | (with_reducible exact Below.refl _ _) | (with_reducible refine Below.drew ?_) | (with_reducible refine Below.alloc ?_ ?_ _)))
  all_goals (first | (simp; done) | (simp; omega))

set_option maxRecDepth 100000 in
theorem specZero_32 (w : World) :
    Calls Tryz.prog 124 #[.int .i64 2, .int .i64 3] w fun e w' => e = .returned (.agg #[.string (opTx (32)), .int .i64 (6)]) ∧ Below w.heap.size w w' := by
  go_enter Tryz.func124, Tryz.ntmps124
  go_wp2
  refine bodyPost_ret (v := .agg #[.string (opTx (32)), .int .i64 (6)]) (by simp [results, Tryz.results124, go_sem, opTx]) rfl ⟨rfl, ?_⟩
  repeat (any_goals (first | (with_reducible exact Below.refl _ _) | (with_reducible refine Below.drew ?_) | (with_reducible refine Below.alloc ?_ ?_ _)))
  all_goals (first | (simp; done) | (simp; omega))

set_option maxRecDepth 100000 in
theorem specZero_33 (w : World) :
    Calls Tryz.prog 124 #[.int .i64 3, .int .i64 3] w fun e w' => e = .returned (.agg #[.string (opTx (32)), .int .i64 (9)]) ∧ Below w.heap.size w w' := by
  go_enter Tryz.func124, Tryz.ntmps124
  go_wp2
  refine bodyPost_ret (v := .agg #[.string (opTx (32)), .int .i64 (9)]) (by simp [results, Tryz.results124, go_sem, opTx]) rfl ⟨rfl, ?_⟩
  repeat (any_goals (first | (with_reducible exact Below.refl _ _) | (with_reducible refine Below.drew ?_) | (with_reducible refine Below.alloc ?_ ?_ _)))
  all_goals (first | (simp; done) | (simp; omega))

set_option maxRecDepth 100000 in
theorem specZero_5o (r : Nat) (hr : r < 8) (h0 : ((r : Int) == 4) = false) (h1 : ((r : Int) == 5) = false) (w : World) :
    Calls Tryz.prog 124 #[.int .i64 r, .int .i64 5] w fun e w' => e = .returned (.agg #[.string (opTx (0)), .int .i64 (0)]) ∧ Below w.heap.size w w' := by
  have hL : ((w.alloc (.cells #[.string ⟨#[]⟩, .int .i64 0] 123)).alloc (.cells #[.string ⟨#[]⟩, .string ⟨#[]⟩, .string ⟨#[]⟩, .string ⟨#[]⟩, .string ⟨#[83, 84, 89]⟩, .string ⟨#[76, 68, 89]⟩, .string ⟨#[67, 80, 89]⟩, .string ⟨#[67, 80, 88]⟩] 9)).cell? ⟨w.heap.size + 1, r, none⟩ = some (.string (opTx (lateId r))) :=
    row8 (w.alloc (.cells #[.string ⟨#[]⟩, .int .i64 0] 123)) (fun r => .string (opTx (lateId r))) 9 r hr (by simp)
  have hr8 : 0 ≤ (r : Int) ∧ (r : Int) < 8 := by omega
  clear hr
  go_enter Tryz.func124, Tryz.ntmps124
  go_wp2
  refine bodyPost_ret (v := .agg #[.string (opTx (0)), .int .i64 (0)]) (by simp [results, Tryz.results124, go_sem, opTx]) rfl ⟨rfl, ?_⟩
  repeat (any_goals (first | (with_reducible exact Below.refl _ _) | (with_reducible refine Below.drew ?_) | (with_reducible refine Below.alloc ?_ ?_ _)))
  all_goals (first | (simp; done) | (simp; omega))

set_option maxRecDepth 100000 in
theorem specZero_54 (w : World) :
    Calls Tryz.prog 124 #[.int .i64 4, .int .i64 5] w fun e w' => e = .returned (.agg #[.string (opTx (23)), .int .i64 (4)]) ∧ Below w.heap.size w w' := by
  go_enter Tryz.func124, Tryz.ntmps124
  go_wp2
  refine bodyPost_ret (v := .agg #[.string (opTx (23)), .int .i64 (4)]) (by simp [results, Tryz.results124, go_sem, opTx]) rfl ⟨rfl, ?_⟩
  repeat (any_goals (first | (with_reducible exact Below.refl _ _) | (with_reducible refine Below.drew ?_) | (with_reducible refine Below.alloc ?_ ?_ _)))
  all_goals (first | (simp; done) | (simp; omega))

set_option maxRecDepth 100000 in
theorem specZero_55 (w : World) :
    Calls Tryz.prog 124 #[.int .i64 5, .int .i64 5] w fun e w' => e = .returned (.agg #[.string (opTx (24)), .int .i64 (4)]) ∧ Below w.heap.size w w' := by
  go_enter Tryz.func124, Tryz.ntmps124
  go_wp2
  refine bodyPost_ret (v := .agg #[.string (opTx (24)), .int .i64 (4)]) (by simp [results, Tryz.results124, go_sem, opTx]) rfl ⟨rfl, ?_⟩
  repeat (any_goals (first | (with_reducible exact Below.refl _ _) | (with_reducible refine Below.drew ?_) | (with_reducible refine Below.alloc ?_ ?_ _)))
  all_goals (first | (simp; done) | (simp; omega))

set_option maxRecDepth 100000 in
theorem specZero_7o (r : Nat) (hr : r < 8) (h0 : ((r : Int) == 5) = false) (w : World) :
    Calls Tryz.prog 124 #[.int .i64 r, .int .i64 7] w fun e w' => e = .returned (.agg #[.string (opTx (0)), .int .i64 (0)]) ∧ Below w.heap.size w w' := by
  have hL : ((w.alloc (.cells #[.string ⟨#[]⟩, .int .i64 0] 123)).alloc (.cells #[.string ⟨#[]⟩, .string ⟨#[]⟩, .string ⟨#[]⟩, .string ⟨#[]⟩, .string ⟨#[83, 84, 89]⟩, .string ⟨#[76, 68, 89]⟩, .string ⟨#[67, 80, 89]⟩, .string ⟨#[67, 80, 88]⟩] 9)).cell? ⟨w.heap.size + 1, r, none⟩ = some (.string (opTx (lateId r))) :=
    row8 (w.alloc (.cells #[.string ⟨#[]⟩, .int .i64 0] 123)) (fun r => .string (opTx (lateId r))) 9 r hr (by simp)
  have hr8 : 0 ≤ (r : Int) ∧ (r : Int) < 8 := by omega
  clear hr
  go_enter Tryz.func124, Tryz.ntmps124
  go_wp2
  refine bodyPost_ret (v := .agg #[.string (opTx (0)), .int .i64 (0)]) (by simp [results, Tryz.results124, go_sem, opTx]) rfl ⟨rfl, ?_⟩
  repeat (any_goals (first | (with_reducible exact Below.refl _ _) | (with_reducible refine Below.drew ?_) | (with_reducible refine Below.alloc ?_ ?_ _)))
  all_goals (first | (simp; done) | (simp; omega))

set_option maxRecDepth 100000 in
theorem specZero_75 (w : World) :
    Calls Tryz.prog 124 #[.int .i64 5, .int .i64 7] w fun e w' => e = .returned (.agg #[.string (opTx (24)), .int .i64 (7)]) ∧ Below w.heap.size w w' := by
  go_enter Tryz.func124, Tryz.ntmps124
  go_wp2
  refine bodyPost_ret (v := .agg #[.string (opTx (24)), .int .i64 (7)]) (by simp [results, Tryz.results124, go_sem, opTx]) rfl ⟨rfl, ?_⟩
  repeat (any_goals (first | (with_reducible exact Below.refl _ _) | (with_reducible refine Below.drew ?_) | (with_reducible refine Below.alloc ?_ ?_ _)))
  all_goals (first | (simp; done) | (simp; omega))

theorem specZero_any (r p : Nat) (hr : r < 8) (hp : p < 8) (w : World) :
    Calls Tryz.prog 124 #[.int .i64 r, .int .i64 p] w fun e w' => e = .returned (.agg #[.string (opTx (sideZeroI r p)), .int .i64 (sideZeroM r p)]) ∧ Below w.heap.size w w' := by
  rcases p with _ | _ | _ | _ | _ | _ | _ | _ | p
  · exact specZero_0 r hr w
  · by_cases h1 : r = 1
    · subst h1; exact specZero_11 w
    · simpa [sideZeroI, sideZeroM, h1] using specZero_1o r hr (by simp; omega) w
  · exact specZero_2 r hr w
  · by_cases h1 : r = 1
    · subst h1; exact specZero_31 w
    by_cases h2 : r = 2
    · subst h2; exact specZero_32 w
    by_cases h3 : r = 3
    · subst h3; exact specZero_33 w
    simpa [sideZeroI, sideZeroM, h1, h2, h3] using specZero_3o r hr (by simp; omega) (by simp; omega) (by simp; omega) w
  · exact specZero_4 r hr w
  · by_cases h4 : r = 4
    · subst h4; exact specZero_54 w
    by_cases h5 : r = 5
    · subst h5; exact specZero_55 w
    simpa [sideZeroI, sideZeroM, h4, h5] using specZero_5o r hr (by simp; omega) (by simp; omega) w
  · exact specZero_6 r hr w
  · by_cases h5 : r = 5
    · subst h5; exact specZero_75 w
    simpa [sideZeroI, sideZeroM, h5] using specZero_7o r hr (by simp; omega) w
  · omega

end Go.Proofs.YtblchdmemhhcbaaGreat

namespace Go.Proofs.YtblchdmemhhcbaaGreat
set_option linter.unusedVariables false
set_option linter.unusedSimpArgs false
open Go.RowKit

theorem opcell {W w1 : World} (hb : Below W.heap.size W w1) : (∀ b o, b < W.heap.size → w1.cell? ⟨b, o, none⟩ = W.cell? ⟨b, o, none⟩) ∧ (∀ b o, b < W.heap.size → w1.frozen? ⟨b, o, none⟩ = W.frozen? ⟨b, o, none⟩) :=
  ⟨fun b o h => hb.cell (p := ⟨b, o, none⟩) h, fun b o h => hb.frozen (p := ⟨b, o, none⟩) h⟩

set_option maxRecDepth 100000 in
theorem specOf_0 (b : Nat) (hb : b < 256) (h0 : ((b : Int) % 4 == 0) = true) (w : World) :
    Calls Tryz.prog 80 #[.int .u8 b] w fun e w' => e = .returned (.agg #[.string (opTx (sideZeroI (b / 32) (b / 4 % 8))), .int .i64 (sideZeroM (b / 32) (b / 4 % 8))]) ∧ Below w.heap.size w w' := by
  have hr : b / 32 < 8 := by omega
  have hp : b / 4 % 8 < 8 := by omega
  go_enter Tryz.func80, Tryz.ntmps80
  go_wp2_with fail
  refine (specZero_any (b / 32) (b / 4 % 8) hr hp _).mono ?_
  rintro e w1 ⟨rfl, hb1⟩
  obtain ⟨hc, hf⟩ := opcell hb1
  have hz : w.heap.size < w1.heap.size := by have := hb1.size; simp at this; omega
  go_wp2
  refine bodyPost_ret (v := .agg #[.string (opTx (sideZeroI (b / 32) (b / 4 % 8))), .int .i64 (sideZeroM (b / 32) (b / 4 % 8))]) (by simp [results, Tryz.results80, go_sem, hc, hz]) rfl ⟨rfl, ?_⟩
  exact (((((Below.refl _ _).alloc (Nat.le_refl _) _).trans (hb1.mono (by simp))).setCell (by simp) _).setCell (by simp) _)

set_option maxRecDepth 100000 in
theorem specOf_1 (b : Nat) (hb : b < 256) (h0 : ((b : Int) % 4 == 0) = false) (h1 : ((b : Int) % 4 == 1) = true) (w : World) :
    Calls Tryz.prog 80 #[.int .u8 b] w fun e w' => e = .returned (.agg #[.string (opTx (sideOneI (b / 32) (b / 4 % 8))), .int .i64 (sideOneM (b / 32) (b / 4 % 8))]) ∧ Below w.heap.size w w' := by
  have hr : b / 32 < 8 := by omega
  have hp : b / 4 % 8 < 8 := by omega
  go_enter Tryz.func80, Tryz.ntmps80
  go_wp2_with fail
  refine (specOne_any (b / 32) (b / 4 % 8) hr hp _).mono ?_
  rintro e w1 ⟨rfl, hb1⟩
  obtain ⟨hc, hf⟩ := opcell hb1
  have hz : w.heap.size < w1.heap.size := by have := hb1.size; simp at this; omega
  go_wp2
  refine bodyPost_ret (v := .agg #[.string (opTx (sideOneI (b / 32) (b / 4 % 8))), .int .i64 (sideOneM (b / 32) (b / 4 % 8))]) (by simp [results, Tryz.results80, go_sem, hc, hz]) rfl ⟨rfl, ?_⟩
  exact (((((Below.refl _ _).alloc (Nat.le_refl _) _).trans (hb1.mono (by simp))).setCell (by simp) _).setCell (by simp) _)

set_option maxRecDepth 100000 in
theorem specOf_2 (b : Nat) (hb : b < 256) (h0 : ((b : Int) % 4 == 0) = false) (h1 : ((b : Int) % 4 == 1) = false) (h2 : ((b : Int) % 4 == 2) = true) (w : World) :
    Calls Tryz.prog 80 #[.int .u8 b] w fun e w' => e = .returned (.agg #[.string (opTx (sideTwoI (b / 32) (b / 4 % 8))), .int .i64 (sideTwoM (b / 32) (b / 4 % 8))]) ∧ Below w.heap.size w w' := by
  have hr : b / 32 < 8 := by omega
  have hp : b / 4 % 8 < 8 := by omega
  go_enter Tryz.func80, Tryz.ntmps80
  go_wp2_with fail
  refine (specTwo_any (b / 32) (b / 4 % 8) hr hp _).mono ?_
  rintro e w1 ⟨rfl, hb1⟩
  obtain ⟨hc, hf⟩ := opcell hb1
  have hz : w.heap.size < w1.heap.size := by have := hb1.size; simp at this; omega
  go_wp2
  refine bodyPost_ret (v := .agg #[.string (opTx (sideTwoI (b / 32) (b / 4 % 8))), .int .i64 (sideTwoM (b / 32) (b / 4 % 8))]) (by simp [results, Tryz.results80, go_sem, hc, hz]) rfl ⟨rfl, ?_⟩
  exact (((((Below.refl _ _).alloc (Nat.le_refl _) _).trans (hb1.mono (by simp))).setCell (by simp) _).setCell (by simp) _)

set_option maxRecDepth 100000 in
theorem specOf_3 (b : Nat) (hb : b < 256) (h0 : ((b : Int) % 4 == 0) = false) (h1 : ((b : Int) % 4 == 1) = false) (h2 : ((b : Int) % 4 == 2) = false) (w : World) :
    Calls Tryz.prog 80 #[.int .u8 b] w fun e w' => e = .returned (.agg #[.string (opTx 0), .int .i64 0]) ∧ Below w.heap.size w w' := by
  go_enter Tryz.func80, Tryz.ntmps80
  go_wp2
  refine bodyPost_ret (v := .agg #[.string (opTx 0), .int .i64 0]) (by simp [results, Tryz.results80, go_sem, opTx]) rfl ⟨rfl, ?_⟩
  exact (Below.refl _ _).alloc (Nat.le_refl _) _

theorem specOf_any (b : Nat) (hb : b < 256) (w : World) :
    Calls Tryz.prog 80 #[.int .u8 b] w fun e w' => e = .returned (.agg #[.string (opName b), .int .i64 (opRawMode b)]) ∧ Below w.heap.size w w' := by
  have h4 : b % 4 = 0 ∨ b % 4 = 1 ∨ b % 4 = 2 ∨ b % 4 = 3 := by omega
  rcases h4 with h | h | h | h
  · simpa [opName, opId, opRawMode, h] using specOf_0 b hb (by simp; omega) w
  · simpa [opName, opId, opRawMode, h] using specOf_1 b hb (by simp; omega) (by simp; omega) w
  · simpa [opName, opId, opRawMode, h] using specOf_2 b hb (by simp; omega) (by simp; omega) (by simp; omega) w
  · simpa [opName, opId, opRawMode, h] using specOf_3 b hb (by simp; omega) (by simp; omega) (by simp; omega) w

theorem specName_any (b : Nat) (hb : b < 256) (w : World) :
    Calls Tryz.prog 45 #[.int .u8 b] w fun e w' => e = .returned (.string (opName b)) ∧ Below w.heap.size w w' := by
  have hfd : ∀ (a c : Value) (w : World), (Instr.field 123 (.agg #[a, c]) 0).run Tryz.prog w = .ok a w := fun _ _ _ => by kernel_rfl
  go_enter Tryz.func45, Tryz.ntmps45
  go_wp2_with fail
  refine (specOf_any b hb _).mono ?_
  rintro e w1 ⟨rfl, hb1⟩
  go_wp2
  go_ret
  exact ⟨rfl, hb1⟩

theorem opTx_empty {i : Nat} (hi : i ≤ 56) : (opTx i).toList.isEmpty = decide (i = 0) := by
  rw [ByteArray.toList_eq]
  have h : ∀ k : Fin 57, (opTx k.1).data.toList.isEmpty = decide (k.1 = 0) := by decide +kernel
  exact h ⟨i, by omega⟩

theorem opName_empty {b : Nat} (hb : b < 256) : (opName b).toList.isEmpty = decide (opId b = 0) := opTx_empty (opId_le hb)

theorem specMode_any (b : Nat) (hb : b < 256) (w : World) :
    Calls Tryz.prog 46 #[.int .u8 b] w fun e w' => e = .returned (.int .i64 (opMode b)) ∧ Below w.heap.size w w' := by
  have he := opName_empty hb
  by_cases hi : opId b = 0
  · have he2 : (opName b).toList.isEmpty = true := by rw [he]; simp [hi]
    clear he
    have hm : opMode b = -1 := by simp [opMode, hi]
    rw [hm]; clear hm hi
    go_enter Tryz.func46, Tryz.ntmps46
    go_wp2_with fail
    refine (specName_any b hb _).mono ?_
    rintro e w1 ⟨rfl, hb1⟩
    go_wp2
    go_ret
    exact ⟨rfl, hb1⟩
  · have he2 : (opName b).toList.isEmpty = false := by rw [he]; simp [hi]
    clear he
    have hm : opMode b = opRawMode b := by simp [opMode, hi]
    rw [hm]; clear hm hi
    have hfd : ∀ (a c : Value) (w : World), (Instr.field 123 (.agg #[a, c]) 1).run Tryz.prog w = .ok c w := fun _ _ _ => by kernel_rfl
    go_enter Tryz.func46, Tryz.ntmps46
    go_wp2_with fail
    refine (specName_any b hb _).mono ?_
    rintro e w1 ⟨rfl, hb1⟩
    go_wp2_with fail
    refine (specOf_any b hb _).mono ?_
    rintro e w2 ⟨rfl, hb2⟩
    go_wp2
    go_ret
    exact ⟨rfl, hb1.trans (hb2.mono hb1.size)⟩

set_option maxRecDepth 100000 in
theorem specSize_any (b : Nat) (hb : b < 256) (w : World) :
    Calls Tryz.prog 83 #[.int .u8 b] w fun e w' => e = .returned (.int .i64 (opSize b)) ∧ Below w.heap.size w w' := by
  have hs : opSize b = (if opMode b = -1 then 0 else sizeOfM (opMode b)) := byte_all (p := fun b => opSize b = (if opMode b = -1 then 0 else sizeOfM (opMode b))) (by decide +kernel) hb
  rw [hs]; clear hs
  have HM := specMode_any b hb
  obtain ⟨m, hm⟩ : ∃ m, opMode b = m := ⟨_, rfl⟩
  rw [hm] at HM ⊢
  clear hm
  go_enter Tryz.func83, Tryz.ntmps83
  go_wp2_with fail
  refine (HM _).mono ?_
  rintro e w1 ⟨rfl, hb1⟩
  clear HM
  go_wp2
  all_goals go_ret
  all_goals refine ⟨?_, hb1⟩
  all_goals simp_all [sizeOfM]

set_option maxRecDepth 100000 in
set_option maxHeartbeats 4000000 in
theorem specKind_by (b : Nat) (s : ByteArray) (m : Int) (HM : ∀ w, Calls Tryz.prog 46 #[.int .u8 b] w fun e w' => e = .returned (.int .i64 m) ∧ Below w.heap.size w w') (HN : ∀ w, Calls Tryz.prog 45 #[.int .u8 b] w fun e w' => e = .returned (.string s) ∧ Below w.heap.size w w') (w : World) :
    Calls Tryz.prog 43 #[.int .u8 b] w fun e w' => e = .returned (.int .i64 (kindL s.toList m)) ∧ Below w.heap.size w w' := by
  go_enter Tryz.func43, Tryz.ntmps43
  go_wp2_with fail
  refine (HN _).mono ?_
  rintro e w1 ⟨rfl, hb1⟩
  go_wp2_with fail
  refine (HM _).mono ?_
  rintro e w2 ⟨rfl, hb2⟩
  clear HM HN
  go_wp2
  all_goals go_ret
  all_goals refine ⟨?_, hb1.trans (hb2.mono hb1.size)⟩
  all_goals simp_all [kindL, kindN, kindM]

theorem specKind_any (b : Nat) (hb : b < 256) (w : World) :
    Calls Tryz.prog 43 #[.int .u8 b] w fun e w' => e = .returned (.int .i64 (opKind b)) ∧ Below w.heap.size w w' := by
  have h := specKind_by b (opName b) (opMode b) (specMode_any b hb) (specName_any b hb) w
  rwa [ByteArray.toList_eq, kindL_op hb] at h

end Go.Proofs.YtblchdmemhhcbaaGreat
