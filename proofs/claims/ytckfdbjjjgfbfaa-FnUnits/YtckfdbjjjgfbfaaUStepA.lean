/-
  Contracts over the program: boxes of processors; the model's registers and flags behind an operand that is used (l06Use).
-/
import Derived.Test.YtckfdbjjjgfbfaaUAluA
import Derived.Test.YtckfdbjjjgfbfaaUAluE
import Derived.Test.YtckfdbjjjgfbfaaUAluD
import Derived.Test.YtckfdbjjjgfbfaaUSpan
namespace Go.Proofs.Ytckfdbjjjgfbfaa
set_option linter.unusedVariables false
set_option linter.unusedSimpArgs false
open Go.RowKit

abbrev zeroCpu : Array Value := #[.int .u8 0, .int .u8 0, .int .u8 0, .int .u8 0, .int .u16 0, .bool false, .bool false, .bool false, .bool false, .bool false, .bool false]

/-- Two boxes that were laid ahead of a call. -/
theorem two_call {w w1 : World} {cs zs : Array Value} {t u : TypeId} (hb : Below ((w.alloc (.cells cs t)).alloc (.cells zs u)).heap.size ((w.alloc (.cells cs t)).alloc (.cells zs u)) w1) :
    BoxN w1 w.heap.size t cs ∧ BoxN w1 (w.heap.size + 1) u zs ∧ Below w.heap.size w w1 := by
  refine ⟨((BoxN.new w t cs).below ((Below.refl _ _).alloc (Nat.le_refl _) _)).below hb, ?_, (((Below.refl _ _).alloc (Nat.le_refl _) _).alloc (by simp) _).trans (hb.mono (by simp; omega))⟩
  have := BoxN.new (w.alloc (.cells cs t)) u zs
  rw [World.size_alloc] at this
  exact this.below hb

/-- A box that was laid ahead of a call. -/
theorem one_call {w w1 : World} {cs : Array Value} {t : TypeId} (hb : Below (w.alloc (.cells cs t)).heap.size (w.alloc (.cells cs t)) w1) :
    BoxN w1 w.heap.size t cs ∧ Below w.heap.size w w1 :=
  ⟨(BoxN.new w t cs).below hb, ((Below.refl _ _).alloc (Nat.le_refl _) _).trans (hb.mono (by simp))⟩

theorem eleven {W : World} {B : Nat} {t : TypeId} {a0 a1 a2 a3 a4 a5 a6 a7 a8 a9 a10 : Value} (h : BoxN W B t #[a0, a1, a2, a3, a4, a5, a6, a7, a8, a9, a10]) :
    W.cell? ⟨B, 0, none⟩ = some a0 ∧ W.cell? ⟨B, 1, none⟩ = some a1 ∧ W.cell? ⟨B, 2, none⟩ = some a2 ∧ W.cell? ⟨B, 3, none⟩ = some a3 ∧ W.cell? ⟨B, 4, none⟩ = some a4 ∧ W.cell? ⟨B, 5, none⟩ = some a5 ∧ W.cell? ⟨B, 6, none⟩ = some a6 ∧ W.cell? ⟨B, 7, none⟩ = some a7 ∧ W.cell? ⟨B, 8, none⟩ = some a8 ∧ W.cell? ⟨B, 9, none⟩ = some a9 ∧ W.cell? ⟨B, 10, none⟩ = some a10 ∧ ∀ k, W.frozen? ⟨B, k, none⟩ = false :=
  ⟨h.cell 0 _ rfl, h.cell 1 _ rfl, h.cell 2 _ rfl, h.cell 3 _ rfl, h.cell 4 _ rfl, h.cell 5 _ rfl, h.cell 6 _ rfl, h.cell 7 _ rfl, h.cell 8 _ rfl, h.cell 9 _ rfl, h.cell 10 _ rfl, h.frozen⟩

theorem six {W : World} {B : Nat} {t : TypeId} {a0 a1 a2 a3 a4 a5 : Value} (h : BoxN W B t #[a0, a1, a2, a3, a4, a5]) :
    W.cell? ⟨B, 0, none⟩ = some a0 ∧ W.cell? ⟨B, 1, none⟩ = some a1 ∧ W.cell? ⟨B, 2, none⟩ = some a2 ∧ W.cell? ⟨B, 3, none⟩ = some a3 ∧ W.cell? ⟨B, 4, none⟩ = some a4 ∧ W.cell? ⟨B, 5, none⟩ = some a5 ∧ ∀ k, W.frozen? ⟨B, k, none⟩ = false :=
  ⟨h.cell 0 _ rfl, h.cell 1 _ rfl, h.cell 2 _ rfl, h.cell 3 _ rfl, h.cell 4 _ rfl, h.cell 5 _ rfl, h.frozen⟩

theorem nat_of {x : Int} (h : 0 ≤ x) : ∃ n : Nat, x = (n : Int) := ⟨x.toNat, (Int.toNat_of_nonneg h).symm⟩

set_option maxRecDepth 100000 in
theorem use_LDA (c : CpuN) (hc : c.ok) (m : Nat) (hm : m < 256) (w : World) :
    Calls Try.prog 87 #[cpuV c, .string ⟨#[76, 68, 65]⟩, .int .u8 m] w fun e w' => e = .returned (cpuV (useL c [76, 68, 65] m)) ∧ Below w.heap.size w w' := by
  obtain ⟨hA, hX, hY, hS, hP⟩ := hc
  go_enter Try.func87, Try.ntmps87
  go_wp2_with fail
  refine (specNZ_any _ _ _ _ _ _ _ _ (by omega) (by omega)).mono ?_
  rintro e w1 ⟨rfl, hb⟩
  obtain ⟨q0, q1, b0⟩ := two_call hb
  obtain ⟨g0, g1, g2, g3, g4, g5, g6, g7, g8, g9, g10, f0⟩ := eleven q0
  obtain ⟨h0, h1, h2, h3, h4, h5, h6, h7, h8, h9, h10, f1⟩ := eleven q1
  have B0 := Lib.hid b0
  clear q0 q1 b0 hb
  go_wp2
  refine bodyPost_ret (v := cpuV (useL c [76, 68, 65] m)) (by simp [results, Try.results87, go_sem, g0, g1, g2, g3, g4, g5, g6, g7, g8, g9, g10, h0, h1, h2, h3, h4, h5, h6, h7, h8, h9, h10, useL, CpuN.nz]) rfl ⟨rfl, ?_⟩
  have hW := B0.out
  repeat (any_goals (first | (with_reducible exact hW) | (with_reducible refine Below.drew ?_) | (with_reducible refine Below.setCell ?_ ?_ _) | (with_reducible refine Below.alloc ?_ ?_ _)))
  all_goals (first | (with_reducible exact Nat.le_refl _) | (simp; done) | (simp; omega))

set_option maxRecDepth 100000 in
theorem use_LDX (c : CpuN) (hc : c.ok) (m : Nat) (hm : m < 256) (w : World) :
    Calls Try.prog 87 #[cpuV c, .string ⟨#[76, 68, 88]⟩, .int .u8 m] w fun e w' => e = .returned (cpuV (useL c [76, 68, 88] m)) ∧ Below w.heap.size w w' := by
  obtain ⟨hA, hX, hY, hS, hP⟩ := hc
  go_enter Try.func87, Try.ntmps87
  go_wp2_with fail
  refine (specNZ_any _ _ _ _ _ _ _ _ (by omega) (by omega)).mono ?_
  rintro e w1 ⟨rfl, hb⟩
  obtain ⟨q0, q1, b0⟩ := two_call hb
  obtain ⟨g0, g1, g2, g3, g4, g5, g6, g7, g8, g9, g10, f0⟩ := eleven q0
  obtain ⟨h0, h1, h2, h3, h4, h5, h6, h7, h8, h9, h10, f1⟩ := eleven q1
  have B0 := Lib.hid b0
  clear q0 q1 b0 hb
  go_wp2
  refine bodyPost_ret (v := cpuV (useL c [76, 68, 88] m)) (by simp [results, Try.results87, go_sem, g0, g1, g2, g3, g4, g5, g6, g7, g8, g9, g10, h0, h1, h2, h3, h4, h5, h6, h7, h8, h9, h10, useL, CpuN.nz]) rfl ⟨rfl, ?_⟩
  have hW := B0.out
  repeat (any_goals (first | (with_reducible exact hW) | (with_reducible refine Below.drew ?_) | (with_reducible refine Below.setCell ?_ ?_ _) | (with_reducible refine Below.alloc ?_ ?_ _)))
  all_goals (first | (with_reducible exact Nat.le_refl _) | (simp; done) | (simp; omega))

set_option maxRecDepth 100000 in
theorem use_LDY (c : CpuN) (hc : c.ok) (m : Nat) (hm : m < 256) (w : World) :
    Calls Try.prog 87 #[cpuV c, .string ⟨#[76, 68, 89]⟩, .int .u8 m] w fun e w' => e = .returned (cpuV (useL c [76, 68, 89] m)) ∧ Below w.heap.size w w' := by
  obtain ⟨hA, hX, hY, hS, hP⟩ := hc
  go_enter Try.func87, Try.ntmps87
  go_wp2_with fail
  refine (specNZ_any _ _ _ _ _ _ _ _ (by omega) (by omega)).mono ?_
  rintro e w1 ⟨rfl, hb⟩
  obtain ⟨q0, q1, b0⟩ := two_call hb
  obtain ⟨g0, g1, g2, g3, g4, g5, g6, g7, g8, g9, g10, f0⟩ := eleven q0
  obtain ⟨h0, h1, h2, h3, h4, h5, h6, h7, h8, h9, h10, f1⟩ := eleven q1
  have B0 := Lib.hid b0
  clear q0 q1 b0 hb
  go_wp2
  refine bodyPost_ret (v := cpuV (useL c [76, 68, 89] m)) (by simp [results, Try.results87, go_sem, g0, g1, g2, g3, g4, g5, g6, g7, g8, g9, g10, h0, h1, h2, h3, h4, h5, h6, h7, h8, h9, h10, useL, CpuN.nz]) rfl ⟨rfl, ?_⟩
  have hW := B0.out
  repeat (any_goals (first | (with_reducible exact hW) | (with_reducible refine Below.drew ?_) | (with_reducible refine Below.setCell ?_ ?_ _) | (with_reducible refine Below.alloc ?_ ?_ _)))
  all_goals (first | (with_reducible exact Nat.le_refl _) | (simp; done) | (simp; omega))

set_option maxRecDepth 100000 in
theorem use_ORA (c : CpuN) (hc : c.ok) (m : Nat) (hm : m < 256) (w : World) :
    Calls Try.prog 87 #[cpuV c, .string ⟨#[79, 82, 65]⟩, .int .u8 m] w fun e w' => e = .returned (cpuV (useL c [79, 82, 65] m)) ∧ Below w.heap.size w w' := by
  obtain ⟨hA, hX, hY, hS, hP⟩ := hc
  obtain ⟨x, hx⟩ := nat_of (bits_u8_bd .or (c.A : Int) (m : Int)).1
  have hxb : x < 256 := by have := (bits_u8_bd .or (c.A : Int) (m : Int)).2; omega
  go_enter Try.func87, Try.ntmps87
  go_wp2_with fail
  refine (specNZ_any _ _ _ _ _ _ _ _ (by omega) (by omega)).mono ?_
  rintro e w1 ⟨rfl, hb⟩
  obtain ⟨q0, q1, b0⟩ := two_call hb
  obtain ⟨g0, g1, g2, g3, g4, g5, g6, g7, g8, g9, g10, f0⟩ := eleven q0
  obtain ⟨h0, h1, h2, h3, h4, h5, h6, h7, h8, h9, h10, f1⟩ := eleven q1
  have B0 := Lib.hid b0
  clear q0 q1 b0 hb
  go_wp2
  refine bodyPost_ret (v := cpuV (useL c [79, 82, 65] m)) (by simp [results, Try.results87, go_sem, g0, g1, g2, g3, g4, g5, g6, g7, g8, g9, g10, h0, h1, h2, h3, h4, h5, h6, h7, h8, h9, h10, useL, CpuN.nz, hx]) rfl ⟨rfl, ?_⟩
  have hW := B0.out
  repeat (any_goals (first | (with_reducible exact hW) | (with_reducible refine Below.drew ?_) | (with_reducible refine Below.setCell ?_ ?_ _) | (with_reducible refine Below.alloc ?_ ?_ _)))
  all_goals (first | (with_reducible exact Nat.le_refl _) | (simp; done) | (simp; omega))

set_option maxRecDepth 100000 in
theorem use_AND (c : CpuN) (hc : c.ok) (m : Nat) (hm : m < 256) (w : World) :
    Calls Try.prog 87 #[cpuV c, .string ⟨#[65, 78, 68]⟩, .int .u8 m] w fun e w' => e = .returned (cpuV (useL c [65, 78, 68] m)) ∧ Below w.heap.size w w' := by
  obtain ⟨hA, hX, hY, hS, hP⟩ := hc
  obtain ⟨x, hx⟩ := nat_of (bits_u8_bd .and (c.A : Int) (m : Int)).1
  have hxb : x < 256 := by have := (bits_u8_bd .and (c.A : Int) (m : Int)).2; omega
  go_enter Try.func87, Try.ntmps87
  go_wp2_with fail
  refine (specNZ_any _ _ _ _ _ _ _ _ (by omega) (by omega)).mono ?_
  rintro e w1 ⟨rfl, hb⟩
  obtain ⟨q0, q1, b0⟩ := two_call hb
  obtain ⟨g0, g1, g2, g3, g4, g5, g6, g7, g8, g9, g10, f0⟩ := eleven q0
  obtain ⟨h0, h1, h2, h3, h4, h5, h6, h7, h8, h9, h10, f1⟩ := eleven q1
  have B0 := Lib.hid b0
  clear q0 q1 b0 hb
  go_wp2
  refine bodyPost_ret (v := cpuV (useL c [65, 78, 68] m)) (by simp [results, Try.results87, go_sem, g0, g1, g2, g3, g4, g5, g6, g7, g8, g9, g10, h0, h1, h2, h3, h4, h5, h6, h7, h8, h9, h10, useL, CpuN.nz, hx]) rfl ⟨rfl, ?_⟩
  have hW := B0.out
  repeat (any_goals (first | (with_reducible exact hW) | (with_reducible refine Below.drew ?_) | (with_reducible refine Below.setCell ?_ ?_ _) | (with_reducible refine Below.alloc ?_ ?_ _)))
  all_goals (first | (with_reducible exact Nat.le_refl _) | (simp; done) | (simp; omega))

set_option maxRecDepth 100000 in
theorem use_EOR (c : CpuN) (hc : c.ok) (m : Nat) (hm : m < 256) (w : World) :
    Calls Try.prog 87 #[cpuV c, .string ⟨#[69, 79, 82]⟩, .int .u8 m] w fun e w' => e = .returned (cpuV (useL c [69, 79, 82] m)) ∧ Below w.heap.size w w' := by
  obtain ⟨hA, hX, hY, hS, hP⟩ := hc
  obtain ⟨x, hx⟩ := nat_of (bits_u8_bd .xor (c.A : Int) (m : Int)).1
  have hxb : x < 256 := by have := (bits_u8_bd .xor (c.A : Int) (m : Int)).2; omega
  go_enter Try.func87, Try.ntmps87
  go_wp2_with fail
  refine (specNZ_any _ _ _ _ _ _ _ _ (by omega) (by omega)).mono ?_
  rintro e w1 ⟨rfl, hb⟩
  obtain ⟨q0, q1, b0⟩ := two_call hb
  obtain ⟨g0, g1, g2, g3, g4, g5, g6, g7, g8, g9, g10, f0⟩ := eleven q0
  obtain ⟨h0, h1, h2, h3, h4, h5, h6, h7, h8, h9, h10, f1⟩ := eleven q1
  have B0 := Lib.hid b0
  clear q0 q1 b0 hb
  go_wp2
  refine bodyPost_ret (v := cpuV (useL c [69, 79, 82] m)) (by simp [results, Try.results87, go_sem, g0, g1, g2, g3, g4, g5, g6, g7, g8, g9, g10, h0, h1, h2, h3, h4, h5, h6, h7, h8, h9, h10, useL, CpuN.nz, hx]) rfl ⟨rfl, ?_⟩
  have hW := B0.out
  repeat (any_goals (first | (with_reducible exact hW) | (with_reducible refine Below.drew ?_) | (with_reducible refine Below.setCell ?_ ?_ _) | (with_reducible refine Below.alloc ?_ ?_ _)))
  all_goals (first | (with_reducible exact Nat.le_refl _) | (simp; done) | (simp; omega))

set_option maxRecDepth 100000 in
theorem use_ADC (c : CpuN) (hc : c.ok) (m : Nat) (hm : m < 256) (w : World) :
    Calls Try.prog 87 #[cpuV c, .string ⟨#[65, 68, 67]⟩, .int .u8 m] w fun e w' => e = .returned (cpuV (useL c [65, 68, 67] m)) ∧ Below w.heap.size w w' := by
  obtain ⟨hA, hX, hY, hS, hP⟩ := hc
  obtain ⟨x, hx⟩ := nat_of (adR_bd (c.A : Int) (m : Int) c.D c.C).1
  have hxb : x < 256 := by have := (adR_bd (c.A : Int) (m : Int) c.D c.C).2; omega
  go_enter Try.func87, Try.ntmps87
  go_wp2_with fail
  refine (specAdc_any _ _ _ _ _ _ _ _ _ (by omega) (by omega) (by omega) (by omega)).mono ?_
  rintro e w1 ⟨rfl, hb⟩
  obtain ⟨q0, q1, b0⟩ := two_call hb
  obtain ⟨g0, g1, g2, g3, g4, g5, g6, g7, g8, g9, g10, f0⟩ := eleven q0
  obtain ⟨h0, h1, h2, h3, h4, h5, h6, h7, h8, h9, h10, f1⟩ := eleven q1
  have B0 := Lib.hid b0
  clear q0 q1 b0 hb
  go_wp2
  refine bodyPost_ret (v := cpuV (useL c [65, 68, 67] m)) (by simp [results, Try.results87, go_sem, g0, g1, g2, g3, g4, g5, g6, g7, g8, g9, g10, h0, h1, h2, h3, h4, h5, h6, h7, h8, h9, h10, useL, CpuN.nz, hx]) rfl ⟨rfl, ?_⟩
  have hW := B0.out
  repeat (any_goals (first | (with_reducible exact hW) | (with_reducible refine Below.drew ?_) | (with_reducible refine Below.setCell ?_ ?_ _) | (with_reducible refine Below.alloc ?_ ?_ _)))
  all_goals (first | (with_reducible exact Nat.le_refl _) | (simp; done) | (simp; omega))

set_option maxRecDepth 100000 in
theorem use_SBC (c : CpuN) (hc : c.ok) (m : Nat) (hm : m < 256) (w : World) :
    Calls Try.prog 87 #[cpuV c, .string ⟨#[83, 66, 67]⟩, .int .u8 m] w fun e w' => e = .returned (cpuV (useL c [83, 66, 67] m)) ∧ Below w.heap.size w w' := by
  obtain ⟨hA, hX, hY, hS, hP⟩ := hc
  obtain ⟨x, hx⟩ := nat_of (sbR_bd (c.A : Int) (m : Int) c.D c.C).1
  have hxb : x < 256 := by have := (sbR_bd (c.A : Int) (m : Int) c.D c.C).2; omega
  go_enter Try.func87, Try.ntmps87
  go_wp2_with fail
  refine (specSbc_any _ _ _ _ _ _ _ _ _ (by omega) (by omega) (by omega) (by omega)).mono ?_
  rintro e w1 ⟨rfl, hb⟩
  obtain ⟨q0, q1, b0⟩ := two_call hb
  obtain ⟨g0, g1, g2, g3, g4, g5, g6, g7, g8, g9, g10, f0⟩ := eleven q0
  obtain ⟨h0, h1, h2, h3, h4, h5, h6, h7, h8, h9, h10, f1⟩ := eleven q1
  have B0 := Lib.hid b0
  clear q0 q1 b0 hb
  go_wp2
  refine bodyPost_ret (v := cpuV (useL c [83, 66, 67] m)) (by simp [results, Try.results87, go_sem, g0, g1, g2, g3, g4, g5, g6, g7, g8, g9, g10, h0, h1, h2, h3, h4, h5, h6, h7, h8, h9, h10, useL, CpuN.nz, hx]) rfl ⟨rfl, ?_⟩
  have hW := B0.out
  repeat (any_goals (first | (with_reducible exact hW) | (with_reducible refine Below.drew ?_) | (with_reducible refine Below.setCell ?_ ?_ _) | (with_reducible refine Below.alloc ?_ ?_ _)))
  all_goals (first | (with_reducible exact Nat.le_refl _) | (simp; done) | (simp; omega))

set_option maxRecDepth 100000 in
theorem use_CMP (c : CpuN) (hc : c.ok) (m : Nat) (hm : m < 256) (w : World) :
    Calls Try.prog 87 #[cpuV c, .string ⟨#[67, 77, 80]⟩, .int .u8 m] w fun e w' => e = .returned (cpuV (useL c [67, 77, 80] m)) ∧ Below w.heap.size w w' := by
  obtain ⟨hA, hX, hY, hS, hP⟩ := hc
  go_enter Try.func87, Try.ntmps87
  go_wp2_with fail
  refine (specCmp_any _ _ _ _ _ _ _ _ (by omega) (by omega) (by omega) (by omega) _).mono ?_
  rintro e w1 ⟨rfl, hb⟩
  obtain ⟨q0, q1, b0⟩ := two_call hb
  obtain ⟨g0, g1, g2, g3, g4, g5, g6, g7, g8, g9, g10, f0⟩ := eleven q0
  obtain ⟨h0, h1, h2, h3, h4, h5, h6, h7, h8, h9, h10, f1⟩ := eleven q1
  have B0 := Lib.hid b0
  clear q0 q1 b0 hb
  go_wp2
  refine bodyPost_ret (v := cpuV (useL c [67, 77, 80] m)) (by simp [results, Try.results87, go_sem, g0, g1, g2, g3, g4, g5, g6, g7, g8, g9, g10, h0, h1, h2, h3, h4, h5, h6, h7, h8, h9, h10, useL, CpuN.nz]) rfl ⟨rfl, ?_⟩
  have hW := B0.out
  repeat (any_goals (first | (with_reducible exact hW) | (with_reducible refine Below.drew ?_) | (with_reducible refine Below.setCell ?_ ?_ _) | (with_reducible refine Below.alloc ?_ ?_ _)))
  all_goals (first | (with_reducible exact Nat.le_refl _) | (simp; done) | (simp; omega))

set_option maxRecDepth 100000 in
theorem use_CPX (c : CpuN) (hc : c.ok) (m : Nat) (hm : m < 256) (w : World) :
    Calls Try.prog 87 #[cpuV c, .string ⟨#[67, 80, 88]⟩, .int .u8 m] w fun e w' => e = .returned (cpuV (useL c [67, 80, 88] m)) ∧ Below w.heap.size w w' := by
  obtain ⟨hA, hX, hY, hS, hP⟩ := hc
  go_enter Try.func87, Try.ntmps87
  go_wp2_with fail
  refine (specCmp_any _ _ _ _ _ _ _ _ (by omega) (by omega) (by omega) (by omega) _).mono ?_
  rintro e w1 ⟨rfl, hb⟩
  obtain ⟨q0, q1, b0⟩ := two_call hb
  obtain ⟨g0, g1, g2, g3, g4, g5, g6, g7, g8, g9, g10, f0⟩ := eleven q0
  obtain ⟨h0, h1, h2, h3, h4, h5, h6, h7, h8, h9, h10, f1⟩ := eleven q1
  have B0 := Lib.hid b0
  clear q0 q1 b0 hb
  go_wp2
  refine bodyPost_ret (v := cpuV (useL c [67, 80, 88] m)) (by simp [results, Try.results87, go_sem, g0, g1, g2, g3, g4, g5, g6, g7, g8, g9, g10, h0, h1, h2, h3, h4, h5, h6, h7, h8, h9, h10, useL, CpuN.nz]) rfl ⟨rfl, ?_⟩
  have hW := B0.out
  repeat (any_goals (first | (with_reducible exact hW) | (with_reducible refine Below.drew ?_) | (with_reducible refine Below.setCell ?_ ?_ _) | (with_reducible refine Below.alloc ?_ ?_ _)))
  all_goals (first | (with_reducible exact Nat.le_refl _) | (simp; done) | (simp; omega))

set_option maxRecDepth 100000 in
theorem use_CPY (c : CpuN) (hc : c.ok) (m : Nat) (hm : m < 256) (w : World) :
    Calls Try.prog 87 #[cpuV c, .string ⟨#[67, 80, 89]⟩, .int .u8 m] w fun e w' => e = .returned (cpuV (useL c [67, 80, 89] m)) ∧ Below w.heap.size w w' := by
  obtain ⟨hA, hX, hY, hS, hP⟩ := hc
  go_enter Try.func87, Try.ntmps87
  go_wp2_with fail
  refine (specCmp_any _ _ _ _ _ _ _ _ (by omega) (by omega) (by omega) (by omega) _).mono ?_
  rintro e w1 ⟨rfl, hb⟩
  obtain ⟨q0, q1, b0⟩ := two_call hb
  obtain ⟨g0, g1, g2, g3, g4, g5, g6, g7, g8, g9, g10, f0⟩ := eleven q0
  obtain ⟨h0, h1, h2, h3, h4, h5, h6, h7, h8, h9, h10, f1⟩ := eleven q1
  have B0 := Lib.hid b0
  clear q0 q1 b0 hb
  go_wp2
  refine bodyPost_ret (v := cpuV (useL c [67, 80, 89] m)) (by simp [results, Try.results87, go_sem, g0, g1, g2, g3, g4, g5, g6, g7, g8, g9, g10, h0, h1, h2, h3, h4, h5, h6, h7, h8, h9, h10, useL, CpuN.nz]) rfl ⟨rfl, ?_⟩
  have hW := B0.out
  repeat (any_goals (first | (with_reducible exact hW) | (with_reducible refine Below.drew ?_) | (with_reducible refine Below.setCell ?_ ?_ _) | (with_reducible refine Below.alloc ?_ ?_ _)))
  all_goals (first | (with_reducible exact Nat.le_refl _) | (simp; done) | (simp; omega))

set_option maxRecDepth 100000 in
theorem use_BIT (c : CpuN) (hc : c.ok) (m : Nat) (hm : m < 256) (w : World) :
    Calls Try.prog 87 #[cpuV c, .string ⟨#[66, 73, 84]⟩, .int .u8 m] w fun e w' => e = .returned (cpuV (useL c [66, 73, 84] m)) ∧ Below w.heap.size w w' := by
  obtain ⟨hA, hX, hY, hS, hP⟩ := hc
  go_enter Try.func87, Try.ntmps87
  go_wp2_with fail
  refine (specBitTest_any _ _ _ _ _ _ _ _ _).mono ?_
  rintro e w1 ⟨rfl, hb⟩
  obtain ⟨q0, q1, b0⟩ := two_call hb
  obtain ⟨g0, g1, g2, g3, g4, g5, g6, g7, g8, g9, g10, f0⟩ := eleven q0
  obtain ⟨h0, h1, h2, h3, h4, h5, h6, h7, h8, h9, h10, f1⟩ := eleven q1
  have B0 := Lib.hid b0
  clear q0 q1 b0 hb
  go_wp2
  refine bodyPost_ret (v := cpuV (useL c [66, 73, 84] m)) (by simp [results, Try.results87, go_sem, g0, g1, g2, g3, g4, g5, g6, g7, g8, g9, g10, h0, h1, h2, h3, h4, h5, h6, h7, h8, h9, h10, useL, CpuN.nz]) rfl ⟨rfl, ?_⟩
  have hW := B0.out
  repeat (any_goals (first | (with_reducible exact hW) | (with_reducible refine Below.drew ?_) | (with_reducible refine Below.setCell ?_ ?_ _) | (with_reducible refine Below.alloc ?_ ?_ _)))
  all_goals (first | (with_reducible exact Nat.le_refl _) | (simp; done) | (simp; omega))

theorem use_any (i : Nat) (hi : i ∈ [1, 2, 3, 4, 6, 7, 8, 14, 24, 25, 26, 31]) (c : CpuN) (hc : c.ok) (m : Nat) (hm : m < 256) (w : World) :
    Calls Try.prog 87 #[cpuV c, .string (opTx i), .int .u8 m] w fun e w' => e = .returned (cpuV (useL c (opTx i).toList m)) ∧ Below w.heap.size w w' := by
  simp only [List.mem_cons, List.not_mem_nil, or_false] at hi
  rcases hi with rfl | rfl | rfl | rfl | rfl | rfl | rfl | rfl | rfl | rfl | rfl | rfl
  · rw [show (opTx 1).toList = [79, 82, 65] by rw [ByteArray.toList_eq]; rfl]; exact use_ORA c hc m hm w
  · rw [show (opTx 2).toList = [65, 78, 68] by rw [ByteArray.toList_eq]; rfl]; exact use_AND c hc m hm w
  · rw [show (opTx 3).toList = [69, 79, 82] by rw [ByteArray.toList_eq]; rfl]; exact use_EOR c hc m hm w
  · rw [show (opTx 4).toList = [65, 68, 67] by rw [ByteArray.toList_eq]; rfl]; exact use_ADC c hc m hm w
  · rw [show (opTx 6).toList = [76, 68, 65] by rw [ByteArray.toList_eq]; rfl]; exact use_LDA c hc m hm w
  · rw [show (opTx 7).toList = [67, 77, 80] by rw [ByteArray.toList_eq]; rfl]; exact use_CMP c hc m hm w
  · rw [show (opTx 8).toList = [83, 66, 67] by rw [ByteArray.toList_eq]; rfl]; exact use_SBC c hc m hm w
  · rw [show (opTx 14).toList = [76, 68, 88] by rw [ByteArray.toList_eq]; rfl]; exact use_LDX c hc m hm w
  · rw [show (opTx 24).toList = [76, 68, 89] by rw [ByteArray.toList_eq]; rfl]; exact use_LDY c hc m hm w
  · rw [show (opTx 25).toList = [67, 80, 89] by rw [ByteArray.toList_eq]; rfl]; exact use_CPY c hc m hm w
  · rw [show (opTx 26).toList = [67, 80, 88] by rw [ByteArray.toList_eq]; rfl]; exact use_CPX c hc m hm w
  · rw [show (opTx 31).toList = [66, 73, 84] by rw [ByteArray.toList_eq]; rfl]; exact use_BIT c hc m hm w

end Go.Proofs.Ytckfdbjjjgfbfaa
