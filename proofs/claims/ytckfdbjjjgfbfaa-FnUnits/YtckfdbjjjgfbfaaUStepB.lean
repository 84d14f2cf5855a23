/-
  Contracts over the program: the model's byte that is changed (l06Change), a flag that is set (l06Flag), a branch that is taken (l06Holds), the register that is stored (l06Reg).
-/
import Derived.Test.YtckfdbjjjgfbfaaUStepA
namespace Go.Proofs.Ytckfdbjjjgfbfaa
set_option linter.unusedVariables false
set_option linter.unusedSimpArgs false
open Go.RowKit

theorem u8_of (x : Int) : IntKind.u8.wrap x = x % 256 := by simp [IntKind.wrap, IntKind.bits, IntKind.signed]

theorem u16_of (x : Int) : IntKind.u16.wrap x = x % 65536 := by simp [IntKind.wrap, IntKind.bits, IntKind.signed]

set_option maxRecDepth 100000 in
theorem chg_ASL (c : CpuN) (m : Nat) (hm : m < 256) (w : World) :
    Calls Try.prog 82 #[.string ⟨#[65, 83, 76]⟩, .int .u8 m, .agg #[.bool c.N, .bool c.V, .bool c.D, .bool c.I, .bool c.Z, .bool c.C]] w fun e w' => e = .returned (.tuple #[.int .u8 (chgB [65, 83, 76] m c.C : Nat), .agg #[.bool (c.chg [65, 83, 76] m).N, .bool (c.chg [65, 83, 76] m).V, .bool (c.chg [65, 83, 76] m).D, .bool (c.chg [65, 83, 76] m).I, .bool (c.chg [65, 83, 76] m).Z, .bool (c.chg [65, 83, 76] m).C]]) ∧ Below w.heap.size w w' := by
  obtain ⟨x, hx⟩ := nat_of (mvR_bd (m : Int) true false (by omega) (by omega)).1
  go_enter Try.func82, Try.ntmps82
  go_wp2_with fail
  refine (specAsl_any _ _ _ _ _ _ _ (by omega) (by omega) _).mono ?_
  rintro e w1 ⟨rfl, hb⟩
  obtain ⟨q0, q1, b0⟩ := two_call hb
  obtain ⟨g0, g1, g2, g3, g4, g5, f0⟩ := six q0
  obtain ⟨h0, h1, h2, h3, h4, h5, f1⟩ := six q1
  have B0 := Lib.hid b0
  clear q0 q1 b0 hb
  go_wp2
  refine bodyPost_ret (v := .tuple #[.int .u8 (chgB [65, 83, 76] m c.C : Nat), .agg #[.bool (c.chg [65, 83, 76] m).N, .bool (c.chg [65, 83, 76] m).V, .bool (c.chg [65, 83, 76] m).D, .bool (c.chg [65, 83, 76] m).I, .bool (c.chg [65, 83, 76] m).Z, .bool (c.chg [65, 83, 76] m).C]]) (by simp [results, Try.results82, go_sem, g0, g1, g2, g3, g4, g5, h0, h1, h2, h3, h4, h5, CpuN.chg, chgB, chgC, hx]) rfl ⟨rfl, ?_⟩
  have hW := B0.out
  repeat (any_goals (first | (with_reducible exact hW) | (with_reducible refine Below.drew ?_) | (with_reducible refine Below.setCell ?_ ?_ _) | (with_reducible refine Below.alloc ?_ ?_ _)))
  all_goals (first | (with_reducible exact Nat.le_refl _) | (simp; done) | (simp; omega))

set_option maxRecDepth 100000 in
theorem chg_ROL (c : CpuN) (m : Nat) (hm : m < 256) (w : World) :
    Calls Try.prog 82 #[.string ⟨#[82, 79, 76]⟩, .int .u8 m, .agg #[.bool c.N, .bool c.V, .bool c.D, .bool c.I, .bool c.Z, .bool c.C]] w fun e w' => e = .returned (.tuple #[.int .u8 (chgB [82, 79, 76] m c.C : Nat), .agg #[.bool (c.chg [82, 79, 76] m).N, .bool (c.chg [82, 79, 76] m).V, .bool (c.chg [82, 79, 76] m).D, .bool (c.chg [82, 79, 76] m).I, .bool (c.chg [82, 79, 76] m).Z, .bool (c.chg [82, 79, 76] m).C]]) ∧ Below w.heap.size w w' := by
  obtain ⟨x, hx⟩ := nat_of (mvR_bd (m : Int) true c.C (by omega) (by omega)).1
  go_enter Try.func82, Try.ntmps82
  go_wp2_with fail
  refine (specRol_any _ _ _ _ _ _ _ (by omega) (by omega) _).mono ?_
  rintro e w1 ⟨rfl, hb⟩
  obtain ⟨q0, q1, b0⟩ := two_call hb
  obtain ⟨g0, g1, g2, g3, g4, g5, f0⟩ := six q0
  obtain ⟨h0, h1, h2, h3, h4, h5, f1⟩ := six q1
  have B0 := Lib.hid b0
  clear q0 q1 b0 hb
  go_wp2
  refine bodyPost_ret (v := .tuple #[.int .u8 (chgB [82, 79, 76] m c.C : Nat), .agg #[.bool (c.chg [82, 79, 76] m).N, .bool (c.chg [82, 79, 76] m).V, .bool (c.chg [82, 79, 76] m).D, .bool (c.chg [82, 79, 76] m).I, .bool (c.chg [82, 79, 76] m).Z, .bool (c.chg [82, 79, 76] m).C]]) (by simp [results, Try.results82, go_sem, g0, g1, g2, g3, g4, g5, h0, h1, h2, h3, h4, h5, CpuN.chg, chgB, chgC, hx]) rfl ⟨rfl, ?_⟩
  have hW := B0.out
  repeat (any_goals (first | (with_reducible exact hW) | (with_reducible refine Below.drew ?_) | (with_reducible refine Below.setCell ?_ ?_ _) | (with_reducible refine Below.alloc ?_ ?_ _)))
  all_goals (first | (with_reducible exact Nat.le_refl _) | (simp; done) | (simp; omega))

set_option maxRecDepth 100000 in
theorem chg_LSR (c : CpuN) (m : Nat) (hm : m < 256) (w : World) :
    Calls Try.prog 82 #[.string ⟨#[76, 83, 82]⟩, .int .u8 m, .agg #[.bool c.N, .bool c.V, .bool c.D, .bool c.I, .bool c.Z, .bool c.C]] w fun e w' => e = .returned (.tuple #[.int .u8 (chgB [76, 83, 82] m c.C : Nat), .agg #[.bool (c.chg [76, 83, 82] m).N, .bool (c.chg [76, 83, 82] m).V, .bool (c.chg [76, 83, 82] m).D, .bool (c.chg [76, 83, 82] m).I, .bool (c.chg [76, 83, 82] m).Z, .bool (c.chg [76, 83, 82] m).C]]) ∧ Below w.heap.size w w' := by
  obtain ⟨x, hx⟩ := nat_of (mvR_bd (m : Int) false false (by omega) (by omega)).1
  go_enter Try.func82, Try.ntmps82
  go_wp2_with fail
  refine (specLsr_any _ _ _ _ _ _ _ (by omega) (by omega) _).mono ?_
  rintro e w1 ⟨rfl, hb⟩
  obtain ⟨q0, q1, b0⟩ := two_call hb
  obtain ⟨g0, g1, g2, g3, g4, g5, f0⟩ := six q0
  obtain ⟨h0, h1, h2, h3, h4, h5, f1⟩ := six q1
  have B0 := Lib.hid b0
  clear q0 q1 b0 hb
  go_wp2
  refine bodyPost_ret (v := .tuple #[.int .u8 (chgB [76, 83, 82] m c.C : Nat), .agg #[.bool (c.chg [76, 83, 82] m).N, .bool (c.chg [76, 83, 82] m).V, .bool (c.chg [76, 83, 82] m).D, .bool (c.chg [76, 83, 82] m).I, .bool (c.chg [76, 83, 82] m).Z, .bool (c.chg [76, 83, 82] m).C]]) (by simp [results, Try.results82, go_sem, g0, g1, g2, g3, g4, g5, h0, h1, h2, h3, h4, h5, CpuN.chg, chgB, chgC, hx]) rfl ⟨rfl, ?_⟩
  have hW := B0.out
  repeat (any_goals (first | (with_reducible exact hW) | (with_reducible refine Below.drew ?_) | (with_reducible refine Below.setCell ?_ ?_ _) | (with_reducible refine Below.alloc ?_ ?_ _)))
  all_goals (first | (with_reducible exact Nat.le_refl _) | (simp; done) | (simp; omega))

set_option maxRecDepth 100000 in
theorem chg_ROR (c : CpuN) (m : Nat) (hm : m < 256) (w : World) :
    Calls Try.prog 82 #[.string ⟨#[82, 79, 82]⟩, .int .u8 m, .agg #[.bool c.N, .bool c.V, .bool c.D, .bool c.I, .bool c.Z, .bool c.C]] w fun e w' => e = .returned (.tuple #[.int .u8 (chgB [82, 79, 82] m c.C : Nat), .agg #[.bool (c.chg [82, 79, 82] m).N, .bool (c.chg [82, 79, 82] m).V, .bool (c.chg [82, 79, 82] m).D, .bool (c.chg [82, 79, 82] m).I, .bool (c.chg [82, 79, 82] m).Z, .bool (c.chg [82, 79, 82] m).C]]) ∧ Below w.heap.size w w' := by
  obtain ⟨x, hx⟩ := nat_of (mvR_bd (m : Int) false c.C (by omega) (by omega)).1
  go_enter Try.func82, Try.ntmps82
  go_wp2_with fail
  refine (specRor_any _ _ _ _ _ _ _ (by omega) (by omega) _).mono ?_
  rintro e w1 ⟨rfl, hb⟩
  obtain ⟨q0, q1, b0⟩ := two_call hb
  obtain ⟨g0, g1, g2, g3, g4, g5, f0⟩ := six q0
  obtain ⟨h0, h1, h2, h3, h4, h5, f1⟩ := six q1
  have B0 := Lib.hid b0
  clear q0 q1 b0 hb
  go_wp2
  refine bodyPost_ret (v := .tuple #[.int .u8 (chgB [82, 79, 82] m c.C : Nat), .agg #[.bool (c.chg [82, 79, 82] m).N, .bool (c.chg [82, 79, 82] m).V, .bool (c.chg [82, 79, 82] m).D, .bool (c.chg [82, 79, 82] m).I, .bool (c.chg [82, 79, 82] m).Z, .bool (c.chg [82, 79, 82] m).C]]) (by simp [results, Try.results82, go_sem, g0, g1, g2, g3, g4, g5, h0, h1, h2, h3, h4, h5, CpuN.chg, chgB, chgC, hx]) rfl ⟨rfl, ?_⟩
  have hW := B0.out
  repeat (any_goals (first | (with_reducible exact hW) | (with_reducible refine Below.drew ?_) | (with_reducible refine Below.setCell ?_ ?_ _) | (with_reducible refine Below.alloc ?_ ?_ _)))
  all_goals (first | (with_reducible exact Nat.le_refl _) | (simp; done) | (simp; omega))

set_option maxRecDepth 100000 in
theorem chg_DEC (c : CpuN) (m : Nat) (hm : m < 256) (w : World) :
    Calls Try.prog 82 #[.string ⟨#[68, 69, 67]⟩, .int .u8 m, .agg #[.bool c.N, .bool c.V, .bool c.D, .bool c.I, .bool c.Z, .bool c.C]] w fun e w' => e = .returned (.tuple #[.int .u8 (chgB [68, 69, 67] m c.C : Nat), .agg #[.bool (c.chg [68, 69, 67] m).N, .bool (c.chg [68, 69, 67] m).V, .bool (c.chg [68, 69, 67] m).D, .bool (c.chg [68, 69, 67] m).I, .bool (c.chg [68, 69, 67] m).Z, .bool (c.chg [68, 69, 67] m).C]]) ∧ Below w.heap.size w w' := by
  have hx : IntKind.u8.wrap ((m : Int) - 1) = (((m + 255) % 256 : Nat) : Int) := by
    have := u8_of ((m : Int) - 1)
    omega
  obtain ⟨x, hX⟩ : ∃ x, (m + 255) % 256 = x := ⟨_, rfl⟩
  have hxb : x < 256 := by omega
  rw [hX] at hx
  have HX := Lib.hid hX
  clear hX
  go_enter Try.func82, Try.ntmps82
  go_wp2_with fail
  refine (specNZ_any _ _ _ _ _ _ _ _ (by omega) (by omega)).mono ?_
  rintro e w1 ⟨rfl, hb⟩
  obtain ⟨q0, q1, b0⟩ := two_call hb
  obtain ⟨g0, g1, g2, g3, g4, g5, f0⟩ := six q0
  obtain ⟨h0, h1, h2, h3, h4, h5, f1⟩ := six q1
  have B0 := Lib.hid b0
  clear q0 q1 b0 hb
  go_wp2
  refine bodyPost_ret (v := .tuple #[.int .u8 (chgB [68, 69, 67] m c.C : Nat), .agg #[.bool (c.chg [68, 69, 67] m).N, .bool (c.chg [68, 69, 67] m).V, .bool (c.chg [68, 69, 67] m).D, .bool (c.chg [68, 69, 67] m).I, .bool (c.chg [68, 69, 67] m).Z, .bool (c.chg [68, 69, 67] m).C]]) (by simp [results, Try.results82, go_sem, g0, g1, g2, g3, g4, g5, h0, h1, h2, h3, h4, h5, CpuN.chg, chgB, chgC, HX.out]) rfl ⟨rfl, ?_⟩
  have hW := B0.out
  repeat (any_goals (first | (with_reducible exact hW) | (with_reducible refine Below.drew ?_) | (with_reducible refine Below.setCell ?_ ?_ _) | (with_reducible refine Below.alloc ?_ ?_ _)))
  all_goals (first | (with_reducible exact Nat.le_refl _) | (simp; done) | (simp; omega))

set_option maxRecDepth 100000 in
theorem chg_INC (c : CpuN) (m : Nat) (hm : m < 256) (w : World) :
    Calls Try.prog 82 #[.string ⟨#[73, 78, 67]⟩, .int .u8 m, .agg #[.bool c.N, .bool c.V, .bool c.D, .bool c.I, .bool c.Z, .bool c.C]] w fun e w' => e = .returned (.tuple #[.int .u8 (chgB [73, 78, 67] m c.C : Nat), .agg #[.bool (c.chg [73, 78, 67] m).N, .bool (c.chg [73, 78, 67] m).V, .bool (c.chg [73, 78, 67] m).D, .bool (c.chg [73, 78, 67] m).I, .bool (c.chg [73, 78, 67] m).Z, .bool (c.chg [73, 78, 67] m).C]]) ∧ Below w.heap.size w w' := by
  have hx : IntKind.u8.wrap ((m : Int) + 1) = (((m + 1) % 256 : Nat) : Int) := by
    have := u8_of ((m : Int) + 1)
    omega
  obtain ⟨x, hX⟩ : ∃ x, (m + 1) % 256 = x := ⟨_, rfl⟩
  have hxb : x < 256 := by omega
  rw [hX] at hx
  have HX := Lib.hid hX
  clear hX
  go_enter Try.func82, Try.ntmps82
  go_wp2_with fail
  refine (specNZ_any _ _ _ _ _ _ _ _ (by omega) (by omega)).mono ?_
  rintro e w1 ⟨rfl, hb⟩
  obtain ⟨q0, q1, b0⟩ := two_call hb
  obtain ⟨g0, g1, g2, g3, g4, g5, f0⟩ := six q0
  obtain ⟨h0, h1, h2, h3, h4, h5, f1⟩ := six q1
  have B0 := Lib.hid b0
  clear q0 q1 b0 hb
  go_wp2
  refine bodyPost_ret (v := .tuple #[.int .u8 (chgB [73, 78, 67] m c.C : Nat), .agg #[.bool (c.chg [73, 78, 67] m).N, .bool (c.chg [73, 78, 67] m).V, .bool (c.chg [73, 78, 67] m).D, .bool (c.chg [73, 78, 67] m).I, .bool (c.chg [73, 78, 67] m).Z, .bool (c.chg [73, 78, 67] m).C]]) (by simp [results, Try.results82, go_sem, g0, g1, g2, g3, g4, g5, h0, h1, h2, h3, h4, h5, CpuN.chg, chgB, chgC, HX.out]) rfl ⟨rfl, ?_⟩
  have hW := B0.out
  repeat (any_goals (first | (with_reducible exact hW) | (with_reducible refine Below.drew ?_) | (with_reducible refine Below.setCell ?_ ?_ _) | (with_reducible refine Below.alloc ?_ ?_ _)))
  all_goals (first | (with_reducible exact Nat.le_refl _) | (simp; done) | (simp; omega))

theorem chg_any (i : Nat) (hi : i ∈ [9, 10, 11, 12, 15, 16]) (c : CpuN) (m : Nat) (hm : m < 256) (w : World) :
    Calls Try.prog 82 #[.string (opTx i), .int .u8 m, .agg #[.bool c.N, .bool c.V, .bool c.D, .bool c.I, .bool c.Z, .bool c.C]] w fun e w' => e = .returned (.tuple #[.int .u8 (chgB (opTx i).toList m c.C : Nat), .agg #[.bool (c.chg (opTx i).toList m).N, .bool (c.chg (opTx i).toList m).V, .bool (c.chg (opTx i).toList m).D, .bool (c.chg (opTx i).toList m).I, .bool (c.chg (opTx i).toList m).Z, .bool (c.chg (opTx i).toList m).C]]) ∧ Below w.heap.size w w' := by
  simp only [List.mem_cons, List.not_mem_nil, or_false] at hi
  rcases hi with rfl | rfl | rfl | rfl | rfl | rfl
  · rw [show (opTx 9).toList = [65, 83, 76] by rw [ByteArray.toList_eq]; rfl]; exact chg_ASL c m hm w
  · rw [show (opTx 10).toList = [82, 79, 76] by rw [ByteArray.toList_eq]; rfl]; exact chg_ROL c m hm w
  · rw [show (opTx 11).toList = [76, 83, 82] by rw [ByteArray.toList_eq]; rfl]; exact chg_LSR c m hm w
  · rw [show (opTx 12).toList = [82, 79, 82] by rw [ByteArray.toList_eq]; rfl]; exact chg_ROR c m hm w
  · rw [show (opTx 15).toList = [68, 69, 67] by rw [ByteArray.toList_eq]; rfl]; exact chg_DEC c m hm w
  · rw [show (opTx 16).toList = [73, 78, 67] by rw [ByteArray.toList_eq]; rfl]; exact chg_INC c m hm w

theorem flag_TXA (c : CpuN) (w : World) :
    Calls Try.prog 84 #[.agg #[.bool c.N, .bool c.V, .bool c.D, .bool c.I, .bool c.Z, .bool c.C], .string ⟨#[84, 88, 65]⟩] w fun e w' => e = .returned (.agg #[.bool (flagL c [84, 88, 65]).N, .bool (flagL c [84, 88, 65]).V, .bool (flagL c [84, 88, 65]).D, .bool (flagL c [84, 88, 65]).I, .bool (flagL c [84, 88, 65]).Z, .bool (flagL c [84, 88, 65]).C]) ∧ Below w.heap.size w w' := by
  go_enter Try.func84, Try.ntmps84
  go_wp2
  refine bodyPost_ret (v := .agg #[.bool (flagL c [84, 88, 65]).N, .bool (flagL c [84, 88, 65]).V, .bool (flagL c [84, 88, 65]).D, .bool (flagL c [84, 88, 65]).I, .bool (flagL c [84, 88, 65]).Z, .bool (flagL c [84, 88, 65]).C]) (by simp [results, Try.results84, go_sem, flagL]) rfl ⟨rfl, ?_⟩
  have B0 := Lib.hid (Below.refl w.heap.size w)
  have hW := B0.out
  repeat (any_goals (first | (with_reducible exact hW) | (with_reducible refine Below.drew ?_) | (with_reducible refine Below.setCell ?_ ?_ _) | (with_reducible refine Below.alloc ?_ ?_ _)))
  all_goals (first | (with_reducible exact Nat.le_refl _) | (simp; done) | (simp; omega))

theorem flag_TAX (c : CpuN) (w : World) :
    Calls Try.prog 84 #[.agg #[.bool c.N, .bool c.V, .bool c.D, .bool c.I, .bool c.Z, .bool c.C], .string ⟨#[84, 65, 88]⟩] w fun e w' => e = .returned (.agg #[.bool (flagL c [84, 65, 88]).N, .bool (flagL c [84, 65, 88]).V, .bool (flagL c [84, 65, 88]).D, .bool (flagL c [84, 65, 88]).I, .bool (flagL c [84, 65, 88]).Z, .bool (flagL c [84, 65, 88]).C]) ∧ Below w.heap.size w w' := by
  go_enter Try.func84, Try.ntmps84
  go_wp2
  refine bodyPost_ret (v := .agg #[.bool (flagL c [84, 65, 88]).N, .bool (flagL c [84, 65, 88]).V, .bool (flagL c [84, 65, 88]).D, .bool (flagL c [84, 65, 88]).I, .bool (flagL c [84, 65, 88]).Z, .bool (flagL c [84, 65, 88]).C]) (by simp [results, Try.results84, go_sem, flagL]) rfl ⟨rfl, ?_⟩
  have B0 := Lib.hid (Below.refl w.heap.size w)
  have hW := B0.out
  repeat (any_goals (first | (with_reducible exact hW) | (with_reducible refine Below.drew ?_) | (with_reducible refine Below.setCell ?_ ?_ _) | (with_reducible refine Below.alloc ?_ ?_ _)))
  all_goals (first | (with_reducible exact Nat.le_refl _) | (simp; done) | (simp; omega))

theorem flag_DEX (c : CpuN) (w : World) :
    Calls Try.prog 84 #[.agg #[.bool c.N, .bool c.V, .bool c.D, .bool c.I, .bool c.Z, .bool c.C], .string ⟨#[68, 69, 88]⟩] w fun e w' => e = .returned (.agg #[.bool (flagL c [68, 69, 88]).N, .bool (flagL c [68, 69, 88]).V, .bool (flagL c [68, 69, 88]).D, .bool (flagL c [68, 69, 88]).I, .bool (flagL c [68, 69, 88]).Z, .bool (flagL c [68, 69, 88]).C]) ∧ Below w.heap.size w w' := by
  go_enter Try.func84, Try.ntmps84
  go_wp2
  refine bodyPost_ret (v := .agg #[.bool (flagL c [68, 69, 88]).N, .bool (flagL c [68, 69, 88]).V, .bool (flagL c [68, 69, 88]).D, .bool (flagL c [68, 69, 88]).I, .bool (flagL c [68, 69, 88]).Z, .bool (flagL c [68, 69, 88]).C]) (by simp [results, Try.results84, go_sem, flagL]) rfl ⟨rfl, ?_⟩
  have B0 := Lib.hid (Below.refl w.heap.size w)
  have hW := B0.out
  repeat (any_goals (first | (with_reducible exact hW) | (with_reducible refine Below.drew ?_) | (with_reducible refine Below.setCell ?_ ?_ _) | (with_reducible refine Below.alloc ?_ ?_ _)))
  all_goals (first | (with_reducible exact Nat.le_refl _) | (simp; done) | (simp; omega))

theorem flag_NOP (c : CpuN) (w : World) :
    Calls Try.prog 84 #[.agg #[.bool c.N, .bool c.V, .bool c.D, .bool c.I, .bool c.Z, .bool c.C], .string ⟨#[78, 79, 80]⟩] w fun e w' => e = .returned (.agg #[.bool (flagL c [78, 79, 80]).N, .bool (flagL c [78, 79, 80]).V, .bool (flagL c [78, 79, 80]).D, .bool (flagL c [78, 79, 80]).I, .bool (flagL c [78, 79, 80]).Z, .bool (flagL c [78, 79, 80]).C]) ∧ Below w.heap.size w w' := by
  go_enter Try.func84, Try.ntmps84
  go_wp2
  refine bodyPost_ret (v := .agg #[.bool (flagL c [78, 79, 80]).N, .bool (flagL c [78, 79, 80]).V, .bool (flagL c [78, 79, 80]).D, .bool (flagL c [78, 79, 80]).I, .bool (flagL c [78, 79, 80]).Z, .bool (flagL c [78, 79, 80]).C]) (by simp [results, Try.results84, go_sem, flagL]) rfl ⟨rfl, ?_⟩
  have B0 := Lib.hid (Below.refl w.heap.size w)
  have hW := B0.out
  repeat (any_goals (first | (with_reducible exact hW) | (with_reducible refine Below.drew ?_) | (with_reducible refine Below.setCell ?_ ?_ _) | (with_reducible refine Below.alloc ?_ ?_ _)))
  all_goals (first | (with_reducible exact Nat.le_refl _) | (simp; done) | (simp; omega))

theorem flag_TXS (c : CpuN) (w : World) :
    Calls Try.prog 84 #[.agg #[.bool c.N, .bool c.V, .bool c.D, .bool c.I, .bool c.Z, .bool c.C], .string ⟨#[84, 88, 83]⟩] w fun e w' => e = .returned (.agg #[.bool (flagL c [84, 88, 83]).N, .bool (flagL c [84, 88, 83]).V, .bool (flagL c [84, 88, 83]).D, .bool (flagL c [84, 88, 83]).I, .bool (flagL c [84, 88, 83]).Z, .bool (flagL c [84, 88, 83]).C]) ∧ Below w.heap.size w w' := by
  go_enter Try.func84, Try.ntmps84
  go_wp2
  refine bodyPost_ret (v := .agg #[.bool (flagL c [84, 88, 83]).N, .bool (flagL c [84, 88, 83]).V, .bool (flagL c [84, 88, 83]).D, .bool (flagL c [84, 88, 83]).I, .bool (flagL c [84, 88, 83]).Z, .bool (flagL c [84, 88, 83]).C]) (by simp [results, Try.results84, go_sem, flagL]) rfl ⟨rfl, ?_⟩
  have B0 := Lib.hid (Below.refl w.heap.size w)
  have hW := B0.out
  repeat (any_goals (first | (with_reducible exact hW) | (with_reducible refine Below.drew ?_) | (with_reducible refine Below.setCell ?_ ?_ _) | (with_reducible refine Below.alloc ?_ ?_ _)))
  all_goals (first | (with_reducible exact Nat.le_refl _) | (simp; done) | (simp; omega))

theorem flag_TSX (c : CpuN) (w : World) :
    Calls Try.prog 84 #[.agg #[.bool c.N, .bool c.V, .bool c.D, .bool c.I, .bool c.Z, .bool c.C], .string ⟨#[84, 83, 88]⟩] w fun e w' => e = .returned (.agg #[.bool (flagL c [84, 83, 88]).N, .bool (flagL c [84, 83, 88]).V, .bool (flagL c [84, 83, 88]).D, .bool (flagL c [84, 83, 88]).I, .bool (flagL c [84, 83, 88]).Z, .bool (flagL c [84, 83, 88]).C]) ∧ Below w.heap.size w w' := by
  go_enter Try.func84, Try.ntmps84
  go_wp2
  refine bodyPost_ret (v := .agg #[.bool (flagL c [84, 83, 88]).N, .bool (flagL c [84, 83, 88]).V, .bool (flagL c [84, 83, 88]).D, .bool (flagL c [84, 83, 88]).I, .bool (flagL c [84, 83, 88]).Z, .bool (flagL c [84, 83, 88]).C]) (by simp [results, Try.results84, go_sem, flagL]) rfl ⟨rfl, ?_⟩
  have B0 := Lib.hid (Below.refl w.heap.size w)
  have hW := B0.out
  repeat (any_goals (first | (with_reducible exact hW) | (with_reducible refine Below.drew ?_) | (with_reducible refine Below.setCell ?_ ?_ _) | (with_reducible refine Below.alloc ?_ ?_ _)))
  all_goals (first | (with_reducible exact Nat.le_refl _) | (simp; done) | (simp; omega))

theorem flag_DEY (c : CpuN) (w : World) :
    Calls Try.prog 84 #[.agg #[.bool c.N, .bool c.V, .bool c.D, .bool c.I, .bool c.Z, .bool c.C], .string ⟨#[68, 69, 89]⟩] w fun e w' => e = .returned (.agg #[.bool (flagL c [68, 69, 89]).N, .bool (flagL c [68, 69, 89]).V, .bool (flagL c [68, 69, 89]).D, .bool (flagL c [68, 69, 89]).I, .bool (flagL c [68, 69, 89]).Z, .bool (flagL c [68, 69, 89]).C]) ∧ Below w.heap.size w w' := by
  go_enter Try.func84, Try.ntmps84
  go_wp2
  refine bodyPost_ret (v := .agg #[.bool (flagL c [68, 69, 89]).N, .bool (flagL c [68, 69, 89]).V, .bool (flagL c [68, 69, 89]).D, .bool (flagL c [68, 69, 89]).I, .bool (flagL c [68, 69, 89]).Z, .bool (flagL c [68, 69, 89]).C]) (by simp [results, Try.results84, go_sem, flagL]) rfl ⟨rfl, ?_⟩
  have B0 := Lib.hid (Below.refl w.heap.size w)
  have hW := B0.out
  repeat (any_goals (first | (with_reducible exact hW) | (with_reducible refine Below.drew ?_) | (with_reducible refine Below.setCell ?_ ?_ _) | (with_reducible refine Below.alloc ?_ ?_ _)))
  all_goals (first | (with_reducible exact Nat.le_refl _) | (simp; done) | (simp; omega))

theorem flag_TAY (c : CpuN) (w : World) :
    Calls Try.prog 84 #[.agg #[.bool c.N, .bool c.V, .bool c.D, .bool c.I, .bool c.Z, .bool c.C], .string ⟨#[84, 65, 89]⟩] w fun e w' => e = .returned (.agg #[.bool (flagL c [84, 65, 89]).N, .bool (flagL c [84, 65, 89]).V, .bool (flagL c [84, 65, 89]).D, .bool (flagL c [84, 65, 89]).I, .bool (flagL c [84, 65, 89]).Z, .bool (flagL c [84, 65, 89]).C]) ∧ Below w.heap.size w w' := by
  go_enter Try.func84, Try.ntmps84
  go_wp2
  refine bodyPost_ret (v := .agg #[.bool (flagL c [84, 65, 89]).N, .bool (flagL c [84, 65, 89]).V, .bool (flagL c [84, 65, 89]).D, .bool (flagL c [84, 65, 89]).I, .bool (flagL c [84, 65, 89]).Z, .bool (flagL c [84, 65, 89]).C]) (by simp [results, Try.results84, go_sem, flagL]) rfl ⟨rfl, ?_⟩
  have B0 := Lib.hid (Below.refl w.heap.size w)
  have hW := B0.out
  repeat (any_goals (first | (with_reducible exact hW) | (with_reducible refine Below.drew ?_) | (with_reducible refine Below.setCell ?_ ?_ _) | (with_reducible refine Below.alloc ?_ ?_ _)))
  all_goals (first | (with_reducible exact Nat.le_refl _) | (simp; done) | (simp; omega))

theorem flag_INY (c : CpuN) (w : World) :
    Calls Try.prog 84 #[.agg #[.bool c.N, .bool c.V, .bool c.D, .bool c.I, .bool c.Z, .bool c.C], .string ⟨#[73, 78, 89]⟩] w fun e w' => e = .returned (.agg #[.bool (flagL c [73, 78, 89]).N, .bool (flagL c [73, 78, 89]).V, .bool (flagL c [73, 78, 89]).D, .bool (flagL c [73, 78, 89]).I, .bool (flagL c [73, 78, 89]).Z, .bool (flagL c [73, 78, 89]).C]) ∧ Below w.heap.size w w' := by
  go_enter Try.func84, Try.ntmps84
  go_wp2
  refine bodyPost_ret (v := .agg #[.bool (flagL c [73, 78, 89]).N, .bool (flagL c [73, 78, 89]).V, .bool (flagL c [73, 78, 89]).D, .bool (flagL c [73, 78, 89]).I, .bool (flagL c [73, 78, 89]).Z, .bool (flagL c [73, 78, 89]).C]) (by simp [results, Try.results84, go_sem, flagL]) rfl ⟨rfl, ?_⟩
  have B0 := Lib.hid (Below.refl w.heap.size w)
  have hW := B0.out
  repeat (any_goals (first | (with_reducible exact hW) | (with_reducible refine Below.drew ?_) | (with_reducible refine Below.setCell ?_ ?_ _) | (with_reducible refine Below.alloc ?_ ?_ _)))
  all_goals (first | (with_reducible exact Nat.le_refl _) | (simp; done) | (simp; omega))

theorem flag_INX (c : CpuN) (w : World) :
    Calls Try.prog 84 #[.agg #[.bool c.N, .bool c.V, .bool c.D, .bool c.I, .bool c.Z, .bool c.C], .string ⟨#[73, 78, 88]⟩] w fun e w' => e = .returned (.agg #[.bool (flagL c [73, 78, 88]).N, .bool (flagL c [73, 78, 88]).V, .bool (flagL c [73, 78, 88]).D, .bool (flagL c [73, 78, 88]).I, .bool (flagL c [73, 78, 88]).Z, .bool (flagL c [73, 78, 88]).C]) ∧ Below w.heap.size w w' := by
  go_enter Try.func84, Try.ntmps84
  go_wp2
  refine bodyPost_ret (v := .agg #[.bool (flagL c [73, 78, 88]).N, .bool (flagL c [73, 78, 88]).V, .bool (flagL c [73, 78, 88]).D, .bool (flagL c [73, 78, 88]).I, .bool (flagL c [73, 78, 88]).Z, .bool (flagL c [73, 78, 88]).C]) (by simp [results, Try.results84, go_sem, flagL]) rfl ⟨rfl, ?_⟩
  have B0 := Lib.hid (Below.refl w.heap.size w)
  have hW := B0.out
  repeat (any_goals (first | (with_reducible exact hW) | (with_reducible refine Below.drew ?_) | (with_reducible refine Below.setCell ?_ ?_ _) | (with_reducible refine Below.alloc ?_ ?_ _)))
  all_goals (first | (with_reducible exact Nat.le_refl _) | (simp; done) | (simp; omega))

theorem flag_CLC (c : CpuN) (w : World) :
    Calls Try.prog 84 #[.agg #[.bool c.N, .bool c.V, .bool c.D, .bool c.I, .bool c.Z, .bool c.C], .string ⟨#[67, 76, 67]⟩] w fun e w' => e = .returned (.agg #[.bool (flagL c [67, 76, 67]).N, .bool (flagL c [67, 76, 67]).V, .bool (flagL c [67, 76, 67]).D, .bool (flagL c [67, 76, 67]).I, .bool (flagL c [67, 76, 67]).Z, .bool (flagL c [67, 76, 67]).C]) ∧ Below w.heap.size w w' := by
  go_enter Try.func84, Try.ntmps84
  go_wp2
  refine bodyPost_ret (v := .agg #[.bool (flagL c [67, 76, 67]).N, .bool (flagL c [67, 76, 67]).V, .bool (flagL c [67, 76, 67]).D, .bool (flagL c [67, 76, 67]).I, .bool (flagL c [67, 76, 67]).Z, .bool (flagL c [67, 76, 67]).C]) (by simp [results, Try.results84, go_sem, flagL]) rfl ⟨rfl, ?_⟩
  have B0 := Lib.hid (Below.refl w.heap.size w)
  have hW := B0.out
  repeat (any_goals (first | (with_reducible exact hW) | (with_reducible refine Below.drew ?_) | (with_reducible refine Below.setCell ?_ ?_ _) | (with_reducible refine Below.alloc ?_ ?_ _)))
  all_goals (first | (with_reducible exact Nat.le_refl _) | (simp; done) | (simp; omega))

theorem flag_SEC (c : CpuN) (w : World) :
    Calls Try.prog 84 #[.agg #[.bool c.N, .bool c.V, .bool c.D, .bool c.I, .bool c.Z, .bool c.C], .string ⟨#[83, 69, 67]⟩] w fun e w' => e = .returned (.agg #[.bool (flagL c [83, 69, 67]).N, .bool (flagL c [83, 69, 67]).V, .bool (flagL c [83, 69, 67]).D, .bool (flagL c [83, 69, 67]).I, .bool (flagL c [83, 69, 67]).Z, .bool (flagL c [83, 69, 67]).C]) ∧ Below w.heap.size w w' := by
  go_enter Try.func84, Try.ntmps84
  go_wp2
  refine bodyPost_ret (v := .agg #[.bool (flagL c [83, 69, 67]).N, .bool (flagL c [83, 69, 67]).V, .bool (flagL c [83, 69, 67]).D, .bool (flagL c [83, 69, 67]).I, .bool (flagL c [83, 69, 67]).Z, .bool (flagL c [83, 69, 67]).C]) (by simp [results, Try.results84, go_sem, flagL]) rfl ⟨rfl, ?_⟩
  have B0 := Lib.hid (Below.refl w.heap.size w)
  have hW := B0.out
  repeat (any_goals (first | (with_reducible exact hW) | (with_reducible refine Below.drew ?_) | (with_reducible refine Below.setCell ?_ ?_ _) | (with_reducible refine Below.alloc ?_ ?_ _)))
  all_goals (first | (with_reducible exact Nat.le_refl _) | (simp; done) | (simp; omega))

theorem flag_CLI (c : CpuN) (w : World) :
    Calls Try.prog 84 #[.agg #[.bool c.N, .bool c.V, .bool c.D, .bool c.I, .bool c.Z, .bool c.C], .string ⟨#[67, 76, 73]⟩] w fun e w' => e = .returned (.agg #[.bool (flagL c [67, 76, 73]).N, .bool (flagL c [67, 76, 73]).V, .bool (flagL c [67, 76, 73]).D, .bool (flagL c [67, 76, 73]).I, .bool (flagL c [67, 76, 73]).Z, .bool (flagL c [67, 76, 73]).C]) ∧ Below w.heap.size w w' := by
  go_enter Try.func84, Try.ntmps84
  go_wp2
  refine bodyPost_ret (v := .agg #[.bool (flagL c [67, 76, 73]).N, .bool (flagL c [67, 76, 73]).V, .bool (flagL c [67, 76, 73]).D, .bool (flagL c [67, 76, 73]).I, .bool (flagL c [67, 76, 73]).Z, .bool (flagL c [67, 76, 73]).C]) (by simp [results, Try.results84, go_sem, flagL]) rfl ⟨rfl, ?_⟩
  have B0 := Lib.hid (Below.refl w.heap.size w)
  have hW := B0.out
  repeat (any_goals (first | (with_reducible exact hW) | (with_reducible refine Below.drew ?_) | (with_reducible refine Below.setCell ?_ ?_ _) | (with_reducible refine Below.alloc ?_ ?_ _)))
  all_goals (first | (with_reducible exact Nat.le_refl _) | (simp; done) | (simp; omega))

theorem flag_SEI (c : CpuN) (w : World) :
    Calls Try.prog 84 #[.agg #[.bool c.N, .bool c.V, .bool c.D, .bool c.I, .bool c.Z, .bool c.C], .string ⟨#[83, 69, 73]⟩] w fun e w' => e = .returned (.agg #[.bool (flagL c [83, 69, 73]).N, .bool (flagL c [83, 69, 73]).V, .bool (flagL c [83, 69, 73]).D, .bool (flagL c [83, 69, 73]).I, .bool (flagL c [83, 69, 73]).Z, .bool (flagL c [83, 69, 73]).C]) ∧ Below w.heap.size w w' := by
  go_enter Try.func84, Try.ntmps84
  go_wp2
  refine bodyPost_ret (v := .agg #[.bool (flagL c [83, 69, 73]).N, .bool (flagL c [83, 69, 73]).V, .bool (flagL c [83, 69, 73]).D, .bool (flagL c [83, 69, 73]).I, .bool (flagL c [83, 69, 73]).Z, .bool (flagL c [83, 69, 73]).C]) (by simp [results, Try.results84, go_sem, flagL]) rfl ⟨rfl, ?_⟩
  have B0 := Lib.hid (Below.refl w.heap.size w)
  have hW := B0.out
  repeat (any_goals (first | (with_reducible exact hW) | (with_reducible refine Below.drew ?_) | (with_reducible refine Below.setCell ?_ ?_ _) | (with_reducible refine Below.alloc ?_ ?_ _)))
  all_goals (first | (with_reducible exact Nat.le_refl _) | (simp; done) | (simp; omega))

theorem flag_TYA (c : CpuN) (w : World) :
    Calls Try.prog 84 #[.agg #[.bool c.N, .bool c.V, .bool c.D, .bool c.I, .bool c.Z, .bool c.C], .string ⟨#[84, 89, 65]⟩] w fun e w' => e = .returned (.agg #[.bool (flagL c [84, 89, 65]).N, .bool (flagL c [84, 89, 65]).V, .bool (flagL c [84, 89, 65]).D, .bool (flagL c [84, 89, 65]).I, .bool (flagL c [84, 89, 65]).Z, .bool (flagL c [84, 89, 65]).C]) ∧ Below w.heap.size w w' := by
  go_enter Try.func84, Try.ntmps84
  go_wp2
  refine bodyPost_ret (v := .agg #[.bool (flagL c [84, 89, 65]).N, .bool (flagL c [84, 89, 65]).V, .bool (flagL c [84, 89, 65]).D, .bool (flagL c [84, 89, 65]).I, .bool (flagL c [84, 89, 65]).Z, .bool (flagL c [84, 89, 65]).C]) (by simp [results, Try.results84, go_sem, flagL]) rfl ⟨rfl, ?_⟩
  have B0 := Lib.hid (Below.refl w.heap.size w)
  have hW := B0.out
  repeat (any_goals (first | (with_reducible exact hW) | (with_reducible refine Below.drew ?_) | (with_reducible refine Below.setCell ?_ ?_ _) | (with_reducible refine Below.alloc ?_ ?_ _)))
  all_goals (first | (with_reducible exact Nat.le_refl _) | (simp; done) | (simp; omega))

theorem flag_CLV (c : CpuN) (w : World) :
    Calls Try.prog 84 #[.agg #[.bool c.N, .bool c.V, .bool c.D, .bool c.I, .bool c.Z, .bool c.C], .string ⟨#[67, 76, 86]⟩] w fun e w' => e = .returned (.agg #[.bool (flagL c [67, 76, 86]).N, .bool (flagL c [67, 76, 86]).V, .bool (flagL c [67, 76, 86]).D, .bool (flagL c [67, 76, 86]).I, .bool (flagL c [67, 76, 86]).Z, .bool (flagL c [67, 76, 86]).C]) ∧ Below w.heap.size w w' := by
  go_enter Try.func84, Try.ntmps84
  go_wp2
  refine bodyPost_ret (v := .agg #[.bool (flagL c [67, 76, 86]).N, .bool (flagL c [67, 76, 86]).V, .bool (flagL c [67, 76, 86]).D, .bool (flagL c [67, 76, 86]).I, .bool (flagL c [67, 76, 86]).Z, .bool (flagL c [67, 76, 86]).C]) (by simp [results, Try.results84, go_sem, flagL]) rfl ⟨rfl, ?_⟩
  have B0 := Lib.hid (Below.refl w.heap.size w)
  have hW := B0.out
  repeat (any_goals (first | (with_reducible exact hW) | (with_reducible refine Below.drew ?_) | (with_reducible refine Below.setCell ?_ ?_ _) | (with_reducible refine Below.alloc ?_ ?_ _)))
  all_goals (first | (with_reducible exact Nat.le_refl _) | (simp; done) | (simp; omega))

theorem flag_CLD (c : CpuN) (w : World) :
    Calls Try.prog 84 #[.agg #[.bool c.N, .bool c.V, .bool c.D, .bool c.I, .bool c.Z, .bool c.C], .string ⟨#[67, 76, 68]⟩] w fun e w' => e = .returned (.agg #[.bool (flagL c [67, 76, 68]).N, .bool (flagL c [67, 76, 68]).V, .bool (flagL c [67, 76, 68]).D, .bool (flagL c [67, 76, 68]).I, .bool (flagL c [67, 76, 68]).Z, .bool (flagL c [67, 76, 68]).C]) ∧ Below w.heap.size w w' := by
  go_enter Try.func84, Try.ntmps84
  go_wp2
  refine bodyPost_ret (v := .agg #[.bool (flagL c [67, 76, 68]).N, .bool (flagL c [67, 76, 68]).V, .bool (flagL c [67, 76, 68]).D, .bool (flagL c [67, 76, 68]).I, .bool (flagL c [67, 76, 68]).Z, .bool (flagL c [67, 76, 68]).C]) (by simp [results, Try.results84, go_sem, flagL]) rfl ⟨rfl, ?_⟩
  have B0 := Lib.hid (Below.refl w.heap.size w)
  have hW := B0.out
  repeat (any_goals (first | (with_reducible exact hW) | (with_reducible refine Below.drew ?_) | (with_reducible refine Below.setCell ?_ ?_ _) | (with_reducible refine Below.alloc ?_ ?_ _)))
  all_goals (first | (with_reducible exact Nat.le_refl _) | (simp; done) | (simp; omega))

theorem flag_SED (c : CpuN) (w : World) :
    Calls Try.prog 84 #[.agg #[.bool c.N, .bool c.V, .bool c.D, .bool c.I, .bool c.Z, .bool c.C], .string ⟨#[83, 69, 68]⟩] w fun e w' => e = .returned (.agg #[.bool (flagL c [83, 69, 68]).N, .bool (flagL c [83, 69, 68]).V, .bool (flagL c [83, 69, 68]).D, .bool (flagL c [83, 69, 68]).I, .bool (flagL c [83, 69, 68]).Z, .bool (flagL c [83, 69, 68]).C]) ∧ Below w.heap.size w w' := by
  go_enter Try.func84, Try.ntmps84
  go_wp2
  refine bodyPost_ret (v := .agg #[.bool (flagL c [83, 69, 68]).N, .bool (flagL c [83, 69, 68]).V, .bool (flagL c [83, 69, 68]).D, .bool (flagL c [83, 69, 68]).I, .bool (flagL c [83, 69, 68]).Z, .bool (flagL c [83, 69, 68]).C]) (by simp [results, Try.results84, go_sem, flagL]) rfl ⟨rfl, ?_⟩
  have B0 := Lib.hid (Below.refl w.heap.size w)
  have hW := B0.out
  repeat (any_goals (first | (with_reducible exact hW) | (with_reducible refine Below.drew ?_) | (with_reducible refine Below.setCell ?_ ?_ _) | (with_reducible refine Below.alloc ?_ ?_ _)))
  all_goals (first | (with_reducible exact Nat.le_refl _) | (simp; done) | (simp; omega))

theorem holds_BPL (c : CpuN) (w : World) :
    Calls Try.prog 85 #[.agg #[.bool c.N, .bool c.V, .bool c.D, .bool c.I, .bool c.Z, .bool c.C], .string ⟨#[66, 80, 76]⟩] w fun e w' => e = .returned (.bool (holdsL c [66, 80, 76])) ∧ Below w.heap.size w w' := by
  go_enter Try.func85, Try.ntmps85
  go_wp2
  refine bodyPost_ret (v := .bool (holdsL c [66, 80, 76])) (by simp [results, Try.results85, go_sem, holdsL]) rfl ⟨rfl, ?_⟩
  have B0 := Lib.hid (Below.refl w.heap.size w)
  have hW := B0.out
  repeat (any_goals (first | (with_reducible exact hW) | (with_reducible refine Below.drew ?_) | (with_reducible refine Below.setCell ?_ ?_ _) | (with_reducible refine Below.alloc ?_ ?_ _)))
  all_goals (first | (with_reducible exact Nat.le_refl _) | (simp; done) | (simp; omega))

theorem holds_BMI (c : CpuN) (w : World) :
    Calls Try.prog 85 #[.agg #[.bool c.N, .bool c.V, .bool c.D, .bool c.I, .bool c.Z, .bool c.C], .string ⟨#[66, 77, 73]⟩] w fun e w' => e = .returned (.bool (holdsL c [66, 77, 73])) ∧ Below w.heap.size w w' := by
  go_enter Try.func85, Try.ntmps85
  go_wp2
  refine bodyPost_ret (v := .bool (holdsL c [66, 77, 73])) (by simp [results, Try.results85, go_sem, holdsL]) rfl ⟨rfl, ?_⟩
  have B0 := Lib.hid (Below.refl w.heap.size w)
  have hW := B0.out
  repeat (any_goals (first | (with_reducible exact hW) | (with_reducible refine Below.drew ?_) | (with_reducible refine Below.setCell ?_ ?_ _) | (with_reducible refine Below.alloc ?_ ?_ _)))
  all_goals (first | (with_reducible exact Nat.le_refl _) | (simp; done) | (simp; omega))

theorem holds_BVC (c : CpuN) (w : World) :
    Calls Try.prog 85 #[.agg #[.bool c.N, .bool c.V, .bool c.D, .bool c.I, .bool c.Z, .bool c.C], .string ⟨#[66, 86, 67]⟩] w fun e w' => e = .returned (.bool (holdsL c [66, 86, 67])) ∧ Below w.heap.size w w' := by
  go_enter Try.func85, Try.ntmps85
  go_wp2
  refine bodyPost_ret (v := .bool (holdsL c [66, 86, 67])) (by simp [results, Try.results85, go_sem, holdsL]) rfl ⟨rfl, ?_⟩
  have B0 := Lib.hid (Below.refl w.heap.size w)
  have hW := B0.out
  repeat (any_goals (first | (with_reducible exact hW) | (with_reducible refine Below.drew ?_) | (with_reducible refine Below.setCell ?_ ?_ _) | (with_reducible refine Below.alloc ?_ ?_ _)))
  all_goals (first | (with_reducible exact Nat.le_refl _) | (simp; done) | (simp; omega))

theorem holds_BVS (c : CpuN) (w : World) :
    Calls Try.prog 85 #[.agg #[.bool c.N, .bool c.V, .bool c.D, .bool c.I, .bool c.Z, .bool c.C], .string ⟨#[66, 86, 83]⟩] w fun e w' => e = .returned (.bool (holdsL c [66, 86, 83])) ∧ Below w.heap.size w w' := by
  go_enter Try.func85, Try.ntmps85
  go_wp2
  refine bodyPost_ret (v := .bool (holdsL c [66, 86, 83])) (by simp [results, Try.results85, go_sem, holdsL]) rfl ⟨rfl, ?_⟩
  have B0 := Lib.hid (Below.refl w.heap.size w)
  have hW := B0.out
  repeat (any_goals (first | (with_reducible exact hW) | (with_reducible refine Below.drew ?_) | (with_reducible refine Below.setCell ?_ ?_ _) | (with_reducible refine Below.alloc ?_ ?_ _)))
  all_goals (first | (with_reducible exact Nat.le_refl _) | (simp; done) | (simp; omega))

theorem holds_BCC (c : CpuN) (w : World) :
    Calls Try.prog 85 #[.agg #[.bool c.N, .bool c.V, .bool c.D, .bool c.I, .bool c.Z, .bool c.C], .string ⟨#[66, 67, 67]⟩] w fun e w' => e = .returned (.bool (holdsL c [66, 67, 67])) ∧ Below w.heap.size w w' := by
  go_enter Try.func85, Try.ntmps85
  go_wp2
  refine bodyPost_ret (v := .bool (holdsL c [66, 67, 67])) (by simp [results, Try.results85, go_sem, holdsL]) rfl ⟨rfl, ?_⟩
  have B0 := Lib.hid (Below.refl w.heap.size w)
  have hW := B0.out
  repeat (any_goals (first | (with_reducible exact hW) | (with_reducible refine Below.drew ?_) | (with_reducible refine Below.setCell ?_ ?_ _) | (with_reducible refine Below.alloc ?_ ?_ _)))
  all_goals (first | (with_reducible exact Nat.le_refl _) | (simp; done) | (simp; omega))

theorem holds_BCS (c : CpuN) (w : World) :
    Calls Try.prog 85 #[.agg #[.bool c.N, .bool c.V, .bool c.D, .bool c.I, .bool c.Z, .bool c.C], .string ⟨#[66, 67, 83]⟩] w fun e w' => e = .returned (.bool (holdsL c [66, 67, 83])) ∧ Below w.heap.size w w' := by
  go_enter Try.func85, Try.ntmps85
  go_wp2
  refine bodyPost_ret (v := .bool (holdsL c [66, 67, 83])) (by simp [results, Try.results85, go_sem, holdsL]) rfl ⟨rfl, ?_⟩
  have B0 := Lib.hid (Below.refl w.heap.size w)
  have hW := B0.out
  repeat (any_goals (first | (with_reducible exact hW) | (with_reducible refine Below.drew ?_) | (with_reducible refine Below.setCell ?_ ?_ _) | (with_reducible refine Below.alloc ?_ ?_ _)))
  all_goals (first | (with_reducible exact Nat.le_refl _) | (simp; done) | (simp; omega))

theorem holds_BNE (c : CpuN) (w : World) :
    Calls Try.prog 85 #[.agg #[.bool c.N, .bool c.V, .bool c.D, .bool c.I, .bool c.Z, .bool c.C], .string ⟨#[66, 78, 69]⟩] w fun e w' => e = .returned (.bool (holdsL c [66, 78, 69])) ∧ Below w.heap.size w w' := by
  go_enter Try.func85, Try.ntmps85
  go_wp2
  refine bodyPost_ret (v := .bool (holdsL c [66, 78, 69])) (by simp [results, Try.results85, go_sem, holdsL]) rfl ⟨rfl, ?_⟩
  have B0 := Lib.hid (Below.refl w.heap.size w)
  have hW := B0.out
  repeat (any_goals (first | (with_reducible exact hW) | (with_reducible refine Below.drew ?_) | (with_reducible refine Below.setCell ?_ ?_ _) | (with_reducible refine Below.alloc ?_ ?_ _)))
  all_goals (first | (with_reducible exact Nat.le_refl _) | (simp; done) | (simp; omega))

theorem holds_BEQ (c : CpuN) (w : World) :
    Calls Try.prog 85 #[.agg #[.bool c.N, .bool c.V, .bool c.D, .bool c.I, .bool c.Z, .bool c.C], .string ⟨#[66, 69, 81]⟩] w fun e w' => e = .returned (.bool (holdsL c [66, 69, 81])) ∧ Below w.heap.size w w' := by
  go_enter Try.func85, Try.ntmps85
  go_wp2
  refine bodyPost_ret (v := .bool (holdsL c [66, 69, 81])) (by simp [results, Try.results85, go_sem, holdsL]) rfl ⟨rfl, ?_⟩
  have B0 := Lib.hid (Below.refl w.heap.size w)
  have hW := B0.out
  repeat (any_goals (first | (with_reducible exact hW) | (with_reducible refine Below.drew ?_) | (with_reducible refine Below.setCell ?_ ?_ _) | (with_reducible refine Below.alloc ?_ ?_ _)))
  all_goals (first | (with_reducible exact Nat.le_refl _) | (simp; done) | (simp; omega))

theorem holds_any (i : Nat) (hi : i ∈ [41, 42, 43, 44, 45, 46, 47, 48]) (c : CpuN) (w : World) :
    Calls Try.prog 85 #[.agg #[.bool c.N, .bool c.V, .bool c.D, .bool c.I, .bool c.Z, .bool c.C], .string (opTx i)] w fun e w' => e = .returned (.bool (holdsL c (opTx i).toList)) ∧ Below w.heap.size w w' := by
  simp only [List.mem_cons, List.not_mem_nil, or_false] at hi
  rcases hi with rfl | rfl | rfl | rfl | rfl | rfl | rfl | rfl
  · rw [show (opTx 41).toList = [66, 80, 76] by rw [ByteArray.toList_eq]; rfl]; exact holds_BPL c w
  · rw [show (opTx 42).toList = [66, 77, 73] by rw [ByteArray.toList_eq]; rfl]; exact holds_BMI c w
  · rw [show (opTx 43).toList = [66, 86, 67] by rw [ByteArray.toList_eq]; rfl]; exact holds_BVC c w
  · rw [show (opTx 44).toList = [66, 86, 83] by rw [ByteArray.toList_eq]; rfl]; exact holds_BVS c w
  · rw [show (opTx 45).toList = [66, 67, 67] by rw [ByteArray.toList_eq]; rfl]; exact holds_BCC c w
  · rw [show (opTx 46).toList = [66, 67, 83] by rw [ByteArray.toList_eq]; rfl]; exact holds_BCS c w
  · rw [show (opTx 47).toList = [66, 78, 69] by rw [ByteArray.toList_eq]; rfl]; exact holds_BNE c w
  · rw [show (opTx 48).toList = [66, 69, 81] by rw [ByteArray.toList_eq]; rfl]; exact holds_BEQ c w

theorem reg_STA (c : CpuN) (w : World) :
    Calls Try.prog 89 #[cpuV c, .string ⟨#[83, 84, 65]⟩] w fun e w' => e = .returned (.int .u8 (storeL c [83, 84, 65] : Nat)) ∧ Below w.heap.size w w' := by
  go_enter Try.func89, Try.ntmps89
  go_wp2
  refine bodyPost_ret (v := .int .u8 (storeL c [83, 84, 65] : Nat)) (by simp [results, Try.results89, go_sem, storeL]) rfl ⟨rfl, ?_⟩
  have B0 := Lib.hid (Below.refl w.heap.size w)
  have hW := B0.out
  repeat (any_goals (first | (with_reducible exact hW) | (with_reducible refine Below.drew ?_) | (with_reducible refine Below.setCell ?_ ?_ _) | (with_reducible refine Below.alloc ?_ ?_ _)))
  all_goals (first | (with_reducible exact Nat.le_refl _) | (simp; done) | (simp; omega))

theorem reg_STX (c : CpuN) (w : World) :
    Calls Try.prog 89 #[cpuV c, .string ⟨#[83, 84, 88]⟩] w fun e w' => e = .returned (.int .u8 (storeL c [83, 84, 88] : Nat)) ∧ Below w.heap.size w w' := by
  go_enter Try.func89, Try.ntmps89
  go_wp2
  refine bodyPost_ret (v := .int .u8 (storeL c [83, 84, 88] : Nat)) (by simp [results, Try.results89, go_sem, storeL]) rfl ⟨rfl, ?_⟩
  have B0 := Lib.hid (Below.refl w.heap.size w)
  have hW := B0.out
  repeat (any_goals (first | (with_reducible exact hW) | (with_reducible refine Below.drew ?_) | (with_reducible refine Below.setCell ?_ ?_ _) | (with_reducible refine Below.alloc ?_ ?_ _)))
  all_goals (first | (with_reducible exact Nat.le_refl _) | (simp; done) | (simp; omega))

theorem reg_STY (c : CpuN) (w : World) :
    Calls Try.prog 89 #[cpuV c, .string ⟨#[83, 84, 89]⟩] w fun e w' => e = .returned (.int .u8 (storeL c [83, 84, 89] : Nat)) ∧ Below w.heap.size w w' := by
  go_enter Try.func89, Try.ntmps89
  go_wp2
  refine bodyPost_ret (v := .int .u8 (storeL c [83, 84, 89] : Nat)) (by simp [results, Try.results89, go_sem, storeL]) rfl ⟨rfl, ?_⟩
  have B0 := Lib.hid (Below.refl w.heap.size w)
  have hW := B0.out
  repeat (any_goals (first | (with_reducible exact hW) | (with_reducible refine Below.drew ?_) | (with_reducible refine Below.setCell ?_ ?_ _) | (with_reducible refine Below.alloc ?_ ?_ _)))
  all_goals (first | (with_reducible exact Nat.le_refl _) | (simp; done) | (simp; omega))

theorem reg_any (i : Nat) (hi : i ∈ [5, 13, 23]) (c : CpuN) (w : World) :
    Calls Try.prog 89 #[cpuV c, .string (opTx i)] w fun e w' => e = .returned (.int .u8 (storeL c (opTx i).toList : Nat)) ∧ Below w.heap.size w w' := by
  simp only [List.mem_cons, List.not_mem_nil, or_false] at hi
  rcases hi with rfl | rfl | rfl
  · rw [show (opTx 5).toList = [83, 84, 65] by rw [ByteArray.toList_eq]; rfl]; exact reg_STA c w
  · rw [show (opTx 13).toList = [83, 84, 88] by rw [ByteArray.toList_eq]; rfl]; exact reg_STX c w
  · rw [show (opTx 23).toList = [83, 84, 89] by rw [ByteArray.toList_eq]; rfl]; exact reg_STY c w

end Go.Proofs.Ytckfdbjjjgfbfaa
