/-
  Contracts over the program: impl's text of an operation (ShowOp).
-/
import Derived.Test.YtffhjoldiicgdaaAsmH
namespace Go.Proofs.Ytffhjoldiicgdaa
set_option linter.unusedVariables false
set_option linter.unusedSimpArgs false
open Go.RowKit

set_option maxRecDepth 100000 in
set_option maxHeartbeats 4000000 in
theorem implShow_num (g o n c x0 pc : Nat) (nm X : ByteArray) (m z k N : Int) (hn0 : ((n : Int) == 0) = false) (hn : (0 : Int) < n) (hE : nm.toList.isEmpty = false) (hnz : ¬ (n : Int) < z) (hnm : nm.size ≤ 16) (hXs : X.size ≤ 48) (w : World) (hg : g < w.heap.size) (c0 : w.cell? ⟨g, o, none⟩ = some (.int .u8 x0))
    (HO : ∀ w, Calls Try.prog 32 #[.int .u8 x0] w fun e w' => e = .returned (.agg #[.string nm, .int .i64 m, .int .i64 z, .int .i64 k]) ∧ Below w.heap.size w w')
    (HSN : ∀ W, Below w.heap.size w W → Calls Try.prog 34 #[.slice (some ⟨g, o, none⟩) n c, .agg #[.string nm, .int .i64 m, .int .i64 z, .int .i64 k], .int .u16 pc] W fun e w' => e = .returned (.int .i64 N) ∧ Below W.heap.size W w')
    (q : Nat) (HC : ∀ (W : World) (B : Nat), MtC W B → Calls Try.prog 85 #[.int .i64 N, .pointer (some ⟨B + q, 0, none⟩), .pointer (some ⟨B + q + 1, 0, none⟩), .pointer (some ⟨B + q + 2, 0, none⟩)] W fun e w' => e = .returned (.string X) ∧ Below W.heap.size W w')
    (hidx : ∀ (B : Nat) (w : World), (Instr.index 52 (mtV B) (.int .i64 m)).run Try.prog w = .ok (.func (.func 85) #[] #[.pointer (some ⟨B + q, 0, none⟩), .pointer (some ⟨B + q + 1, 0, none⟩), .pointer (some ⟨B + q + 2, 0, none⟩)]) w) :
    Calls Try.prog 11 #[.slice (some ⟨g, o, none⟩) n c, .int .u16 pc] w fun e w' => e = .returned (.string (nm ++ X)) ∧ Below w.heap.size w w' := by
  have i0 : (0 : Int) ≤ 0 ∧ (0 : Int) < n := by omega
  have s1 : ¬ 9223372036854775807 < nm.size + X.size := by omega
  go_enter Try.func11, Try.ntmps11
  go_wp2_with fail
  refine (HO _).mono ?_
  rintro e w1 ⟨rfl, b1⟩
  have hq := (b1.alloc b1.size (.cells #[.string nm, .int .i64 m, .int .i64 z, .int .i64 k] 49)).drew
  have hS0 : (w1.alloc (.cells #[.string nm, .int .i64 m, .int .i64 z, .int .i64 k] 49)).drew.cell? ⟨w1.heap.size, 0, none⟩ = some (.string nm) ∧ (w1.alloc (.cells #[.string nm, .int .i64 m, .int .i64 z, .int .i64 k] 49)).drew.cell? ⟨w1.heap.size, 1, none⟩ = some (.int .i64 m) ∧ (w1.alloc (.cells #[.string nm, .int .i64 m, .int .i64 z, .int .i64 k] 49)).drew.cell? ⟨w1.heap.size, 2, none⟩ = some (.int .i64 z) ∧ (w1.alloc (.cells #[.string nm, .int .i64 m, .int .i64 z, .int .i64 k] 49)).drew.cell? ⟨w1.heap.size, 3, none⟩ = some (.int .i64 k) ∧ w1.heap.size < (w1.alloc (.cells #[.string nm, .int .i64 m, .int .i64 z, .int .i64 k] 49)).drew.heap.size := by simp
  clear c0 HO i0
  go_wp2_with fail
  generalize w1.alloc (.cells #[.string nm, .int .i64 m, .int .i64 z, .int .i64 k] 49) = W at hq hS0 ⊢
  clear b1
  generalize w1.heap.size = B at hS0 ⊢
  go_region_held3 (fun w' => w'.cell? ⟨B, 0, none⟩ = some (.string nm) ∧ w'.cell? ⟨B, 1, none⟩ = some (.int .i64 m) ∧ w'.cell? ⟨B, 2, none⟩ = some (.int .i64 z) ∧ w'.cell? ⟨B, 3, none⟩ = some (.int .i64 k) ∧ B < w'.heap.size)
    (((try dsimp only); (first | (with_reducible exact hS0) | (with_reducible exact four_keep bM hS0) | (with_reducible exact four_keep bN hS0) | (with_reducible exact four_keep bN (four_keep bM hS0)) | (with_reducible exact four_keep bM (four_keep bN hS0)) | (with_reducible exact four_keep bC (four_keep bN (four_keep bM hS0))) | (with_reducible exact four_keep bC (four_keep bM (four_keep bN hS0))))))
    (first | (go_at_call 33; refine (modeTexts_any _).mono ?_; rintro e wM ⟨rfl, bM, cM⟩) | (go_at_call 34; refine (HSN _ (by first | exact hq | exact bstep hq bM)).mono ?_; rintro e wN ⟨rfl, bN⟩) | (go_at_call 85; refine (HC wN W.heap.size (cM.keep bN)).mono ?_; rintro e wC ⟨rfl, bC⟩))
  all_goals go_wp2
  all_goals go_ret
  all_goals exact ⟨rfl, bstep (bstep (bstep hq bM) bN) bC⟩

set_option maxRecDepth 100000 in
set_option maxHeartbeats 4000000 in
theorem implShow_fix (g o n c x0 pc : Nat) (nm X : ByteArray) (m z k N : Int) (hn0 : ((n : Int) == 0) = false) (hn : (0 : Int) < n) (hE : nm.toList.isEmpty = false) (hnz : ¬ (n : Int) < z) (hnm : nm.size ≤ 16) (hXs : X.size ≤ 48) (w : World) (hg : g < w.heap.size) (c0 : w.cell? ⟨g, o, none⟩ = some (.int .u8 x0))
    (HO : ∀ w, Calls Try.prog 32 #[.int .u8 x0] w fun e w' => e = .returned (.agg #[.string nm, .int .i64 m, .int .i64 z, .int .i64 k]) ∧ Below w.heap.size w w')
    (HSN : ∀ W, Below w.heap.size w W → Calls Try.prog 34 #[.slice (some ⟨g, o, none⟩) n c, .agg #[.string nm, .int .i64 m, .int .i64 z, .int .i64 k], .int .u16 pc] W fun e w' => e = .returned (.int .i64 N) ∧ Below W.heap.size W w')
    (q : Nat) (HC : ∀ (W : World) (B : Nat), MtC W B → Calls Try.prog 84 #[.int .i64 N, .pointer (some ⟨B + q, 0, none⟩)] W fun e w' => e = .returned (.string X) ∧ Below W.heap.size W w')
    (hidx : ∀ (B : Nat) (w : World), (Instr.index 52 (mtV B) (.int .i64 m)).run Try.prog w = .ok (.func (.func 84) #[] #[.pointer (some ⟨B + q, 0, none⟩)]) w) :
    Calls Try.prog 11 #[.slice (some ⟨g, o, none⟩) n c, .int .u16 pc] w fun e w' => e = .returned (.string (nm ++ X)) ∧ Below w.heap.size w w' := by
  have i0 : (0 : Int) ≤ 0 ∧ (0 : Int) < n := by omega
  have s1 : ¬ 9223372036854775807 < nm.size + X.size := by omega
  go_enter Try.func11, Try.ntmps11
  go_wp2_with fail
  refine (HO _).mono ?_
  rintro e w1 ⟨rfl, b1⟩
  have hq := (b1.alloc b1.size (.cells #[.string nm, .int .i64 m, .int .i64 z, .int .i64 k] 49)).drew
  have hS0 : (w1.alloc (.cells #[.string nm, .int .i64 m, .int .i64 z, .int .i64 k] 49)).drew.cell? ⟨w1.heap.size, 0, none⟩ = some (.string nm) ∧ (w1.alloc (.cells #[.string nm, .int .i64 m, .int .i64 z, .int .i64 k] 49)).drew.cell? ⟨w1.heap.size, 1, none⟩ = some (.int .i64 m) ∧ (w1.alloc (.cells #[.string nm, .int .i64 m, .int .i64 z, .int .i64 k] 49)).drew.cell? ⟨w1.heap.size, 2, none⟩ = some (.int .i64 z) ∧ (w1.alloc (.cells #[.string nm, .int .i64 m, .int .i64 z, .int .i64 k] 49)).drew.cell? ⟨w1.heap.size, 3, none⟩ = some (.int .i64 k) ∧ w1.heap.size < (w1.alloc (.cells #[.string nm, .int .i64 m, .int .i64 z, .int .i64 k] 49)).drew.heap.size := by simp
  clear c0 HO i0
  go_wp2_with fail
  generalize w1.alloc (.cells #[.string nm, .int .i64 m, .int .i64 z, .int .i64 k] 49) = W at hq hS0 ⊢
  clear b1
  generalize w1.heap.size = B at hS0 ⊢
  go_region_held3 (fun w' => w'.cell? ⟨B, 0, none⟩ = some (.string nm) ∧ w'.cell? ⟨B, 1, none⟩ = some (.int .i64 m) ∧ w'.cell? ⟨B, 2, none⟩ = some (.int .i64 z) ∧ w'.cell? ⟨B, 3, none⟩ = some (.int .i64 k) ∧ B < w'.heap.size)
    (((try dsimp only); (first | (with_reducible exact hS0) | (with_reducible exact four_keep bM hS0) | (with_reducible exact four_keep bN hS0) | (with_reducible exact four_keep bN (four_keep bM hS0)) | (with_reducible exact four_keep bM (four_keep bN hS0)) | (with_reducible exact four_keep bC (four_keep bN (four_keep bM hS0))) | (with_reducible exact four_keep bC (four_keep bM (four_keep bN hS0))))))
    (first | (go_at_call 33; refine (modeTexts_any _).mono ?_; rintro e wM ⟨rfl, bM, cM⟩) | (go_at_call 34; refine (HSN _ (by first | exact hq | exact bstep hq bM)).mono ?_; rintro e wN ⟨rfl, bN⟩) | (go_at_call 84; refine (HC wN W.heap.size (cM.keep bN)).mono ?_; rintro e wC ⟨rfl, bC⟩))
  all_goals go_wp2
  all_goals go_ret
  all_goals exact ⟨rfl, bstep (bstep (bstep hq bM) bN) bC⟩

end Go.Proofs.Ytffhjoldiicgdaa
