/-
  Contracts over the program: the model's operation without an operand (l06Imp).
-/
import Derived.Test.YtckfdbjjjgfbfaaUStepB
namespace Go.Proofs.Ytckfdbjjjgfbfaa
set_option linter.unusedVariables false
set_option linter.unusedSimpArgs false
open Go.RowKit

abbrev set6 (W : World) (B : Nat) (v5 v6 v7 v8 v9 v10 : Value) : World := (((((W.setCell ⟨B, 5, none⟩ v5).setCell ⟨B, 6, none⟩ v6).setCell ⟨B, 7, none⟩ v7).setCell ⟨B, 8, none⟩ v8).setCell ⟨B, 9, none⟩ v9).setCell ⟨B, 10, none⟩ v10

theorem six_set {W : World} {B : Nat} {t : TypeId} {a0 a1 a2 a3 a4 a5 a6 a7 a8 a9 a10 : Value} (h : BoxN W B t #[a0, a1, a2, a3, a4, a5, a6, a7, a8, a9, a10]) (v5 v6 v7 v8 v9 v10 : Value) : BoxN (set6 W B v5 v6 v7 v8 v9 v10) B t #[a0, a1, a2, a3, a4, v5, v6, v7, v8, v9, v10] := by
  have r : BoxN _ B t #[a0, a1, a2, a3, a4, v5, a6, a7, a8, a9, a10] := h.set 5 v5
  have r : BoxN _ B t #[a0, a1, a2, a3, a4, v5, v6, a7, a8, a9, a10] := r.set 6 v6
  have r : BoxN _ B t #[a0, a1, a2, a3, a4, v5, v6, v7, a8, a9, a10] := r.set 7 v7
  have r : BoxN _ B t #[a0, a1, a2, a3, a4, v5, v6, v7, v8, a9, a10] := r.set 8 v8
  have r : BoxN _ B t #[a0, a1, a2, a3, a4, v5, v6, v7, v8, v9, a10] := r.set 9 v9
  exact r.set 10 v10

theorem six_other {W : World} {B B' : Nat} {t : TypeId} {cs : Array Value} (h : BoxN W B' t cs) (hn : B' ≠ B) (v5 v6 v7 v8 v9 v10 : Value) : BoxN (set6 W B v5 v6 v7 v8 v9 v10) B' t cs := by
  have d : B' < B ∨ B + 1 ≤ B' := by omega
  exact (((((h.span (Span.set _ B 5 v5) d).span (Span.set _ B 6 v6) d).span (Span.set _ B 7 v7) d).span (Span.set _ B 8 v8) d).span (Span.set _ B 9 v9) d).span (Span.set _ B 10 v10) d

theorem six_below {w W : World} {n B : Nat} (h : Below n w W) (hn : n ≤ B) (v5 v6 v7 v8 v9 v10 : Value) : Below n w (set6 W B v5 v6 v7 v8 v9 v10) :=
  (((((h.setCell hn _).setCell hn _).setCell hn _).setCell hn _).setCell hn _).setCell hn _

/-- Behind a call that came behind six flags' stores. -/
theorem six_call {w W w2 : World} {n B B' : Nat} {t t' : TypeId} {a0 a1 a2 a3 a4 a5 a6 a7 a8 a9 a10 v5 v6 v7 v8 v9 v10 : Value} {zs : Array Value} (hb : Below (set6 W B v5 v6 v7 v8 v9 v10).heap.size (set6 W B v5 v6 v7 v8 v9 v10) w2)
    (h : BoxN W B t #[a0, a1, a2, a3, a4, a5, a6, a7, a8, a9, a10] ∧ BoxN W B' t' zs ∧ Below n w W) (hne : B' ≠ B) (hn : n ≤ B) :
    BoxN w2 B t #[a0, a1, a2, a3, a4, v5, v6, v7, v8, v9, v10] ∧ BoxN w2 B' t' zs ∧ Below n w w2 := by
  refine ⟨(six_set h.1 v5 v6 v7 v8 v9 v10).below hb, (six_other h.2.1 hne v5 v6 v7 v8 v9 v10).below hb, (six_below h.2.2 hn v5 v6 v7 v8 v9 v10).trans (hb.mono ?_)⟩
  have := h.1.lt
  simp
  omega

set_option maxRecDepth 100000 in
theorem imp_TXA (c : CpuN) (hc : c.ok) (w : World) :
    Calls Try.prog 72 #[cpuV c, .string ⟨#[84, 88, 65]⟩, .int .i64 0] w fun e w' => e = .returned (cpuV (impL c [84, 88, 65] 0)) ∧ Below w.heap.size w w' := by
  obtain ⟨hA, hX, hY, hS, hP⟩ := hc
  go_enter Try.func72, Try.ntmps72
  go_wp2_with fail
  refine (specNZ_any _ _ _ _ _ _ _ _ (by omega) (by omega)).mono ?_
  rintro e w1 ⟨rfl, hb⟩
  obtain ⟨q0, q1, b0⟩ := two_call hb
  obtain ⟨g0, g1, g2, g3, g4, g5, g6, g7, g8, g9, g10, f0⟩ := eleven q0
  have HQ := Lib.hid (And.intro q0 (And.intro q1 b0))
  clear q0 q1 b0 hb
  go_wp2_with fail
  refine (flag_TXA ⟨c.A, c.X, c.Y, c.S, c.PC, bit7 (c.X : Int), c.V, c.D, c.I, isZ (c.X : Int), c.C⟩ _).mono ?_
  rintro e w2 ⟨rfl, hb⟩
  obtain ⟨q0, q1, b0⟩ := six_call hb HQ.out (by omega) (Nat.le_refl _)
  clear g0 g1 g2 g3 g4 g5 g6 g7 g8 g9 g10 f0 HQ
  obtain ⟨g0, g1, g2, g3, g4, g5, g6, g7, g8, g9, g10, f0⟩ := eleven q0
  obtain ⟨h0, h1, h2, h3, h4, h5, h6, h7, h8, h9, h10, f1⟩ := eleven q1
  have B0 := Lib.hid b0
  clear q0 q1 b0 hb
  go_wp2
  refine bodyPost_ret (v := cpuV (impL c [84, 88, 65] 0)) (by simp [results, Try.results72, go_sem, g0, g1, g2, g3, g4, g5, g6, g7, g8, g9, g10, h0, h1, h2, h3, h4, h5, h6, h7, h8, h9, h10, impL, regL, flagL, CpuN.nz, CpuN.chg]) rfl ⟨rfl, ?_⟩
  have hW := B0.out
  repeat (any_goals (first | (with_reducible exact hW) | (with_reducible refine Below.drew ?_) | (with_reducible refine Below.setCell ?_ ?_ _) | (with_reducible refine Below.alloc ?_ ?_ _)))
  all_goals (first | (with_reducible exact Nat.le_refl _) | (simp; done) | (simp; omega))

set_option maxRecDepth 100000 in
theorem imp_TAX (c : CpuN) (hc : c.ok) (w : World) :
    Calls Try.prog 72 #[cpuV c, .string ⟨#[84, 65, 88]⟩, .int .i64 0] w fun e w' => e = .returned (cpuV (impL c [84, 65, 88] 0)) ∧ Below w.heap.size w w' := by
  obtain ⟨hA, hX, hY, hS, hP⟩ := hc
  go_enter Try.func72, Try.ntmps72
  go_wp2_with fail
  refine (specNZ_any _ _ _ _ _ _ _ _ (by omega) (by omega)).mono ?_
  rintro e w1 ⟨rfl, hb⟩
  obtain ⟨q0, q1, b0⟩ := two_call hb
  obtain ⟨g0, g1, g2, g3, g4, g5, g6, g7, g8, g9, g10, f0⟩ := eleven q0
  have HQ := Lib.hid (And.intro q0 (And.intro q1 b0))
  clear q0 q1 b0 hb
  go_wp2_with fail
  refine (flag_TAX ⟨c.A, c.X, c.Y, c.S, c.PC, bit7 (c.A : Int), c.V, c.D, c.I, isZ (c.A : Int), c.C⟩ _).mono ?_
  rintro e w2 ⟨rfl, hb⟩
  obtain ⟨q0, q1, b0⟩ := six_call hb HQ.out (by omega) (Nat.le_refl _)
  clear g0 g1 g2 g3 g4 g5 g6 g7 g8 g9 g10 f0 HQ
  obtain ⟨g0, g1, g2, g3, g4, g5, g6, g7, g8, g9, g10, f0⟩ := eleven q0
  obtain ⟨h0, h1, h2, h3, h4, h5, h6, h7, h8, h9, h10, f1⟩ := eleven q1
  have B0 := Lib.hid b0
  clear q0 q1 b0 hb
  go_wp2
  refine bodyPost_ret (v := cpuV (impL c [84, 65, 88] 0)) (by simp [results, Try.results72, go_sem, g0, g1, g2, g3, g4, g5, g6, g7, g8, g9, g10, h0, h1, h2, h3, h4, h5, h6, h7, h8, h9, h10, impL, regL, flagL, CpuN.nz, CpuN.chg]) rfl ⟨rfl, ?_⟩
  have hW := B0.out
  repeat (any_goals (first | (with_reducible exact hW) | (with_reducible refine Below.drew ?_) | (with_reducible refine Below.setCell ?_ ?_ _) | (with_reducible refine Below.alloc ?_ ?_ _)))
  all_goals (first | (with_reducible exact Nat.le_refl _) | (simp; done) | (simp; omega))

set_option maxRecDepth 100000 in
theorem imp_DEX (c : CpuN) (hc : c.ok) (w : World) :
    Calls Try.prog 72 #[cpuV c, .string ⟨#[68, 69, 88]⟩, .int .i64 0] w fun e w' => e = .returned (cpuV (impL c [68, 69, 88] 0)) ∧ Below w.heap.size w w' := by
  obtain ⟨hA, hX, hY, hS, hP⟩ := hc
  have hx : IntKind.u8.wrap ((c.X : Int) - 1) = (((c.X + 255) % 256 : Nat) : Int) := by
    have := u8_of ((c.X : Int) - 1)
    omega
  obtain ⟨x, hX'⟩ : ∃ x, (c.X + 255) % 256 = x := ⟨_, rfl⟩
  have hxb : x < 256 := by omega
  rw [hX'] at hx
  have HX := Lib.hid hX'
  clear hX'
  go_enter Try.func72, Try.ntmps72
  go_wp2_with fail
  refine (specNZ_any _ _ _ _ _ _ _ _ (by omega) (by omega)).mono ?_
  rintro e w1 ⟨rfl, hb⟩
  obtain ⟨q0, q1, b0⟩ := two_call hb
  obtain ⟨g0, g1, g2, g3, g4, g5, g6, g7, g8, g9, g10, f0⟩ := eleven q0
  have HQ := Lib.hid (And.intro q0 (And.intro q1 b0))
  clear q0 q1 b0 hb
  go_wp2_with fail
  refine (flag_DEX ⟨c.A, c.X, c.Y, c.S, c.PC, bit7 (x : Int), c.V, c.D, c.I, isZ (x : Int), c.C⟩ _).mono ?_
  rintro e w2 ⟨rfl, hb⟩
  obtain ⟨q0, q1, b0⟩ := six_call hb HQ.out (by omega) (Nat.le_refl _)
  clear g0 g1 g2 g3 g4 g5 g6 g7 g8 g9 g10 f0 HQ
  obtain ⟨g0, g1, g2, g3, g4, g5, g6, g7, g8, g9, g10, f0⟩ := eleven q0
  obtain ⟨h0, h1, h2, h3, h4, h5, h6, h7, h8, h9, h10, f1⟩ := eleven q1
  have B0 := Lib.hid b0
  clear q0 q1 b0 hb
  go_wp2
  refine bodyPost_ret (v := cpuV (impL c [68, 69, 88] 0)) (by simp [results, Try.results72, go_sem, g0, g1, g2, g3, g4, g5, g6, g7, g8, g9, g10, h0, h1, h2, h3, h4, h5, h6, h7, h8, h9, h10, impL, regL, flagL, CpuN.nz, CpuN.chg, HX.out]) rfl ⟨rfl, ?_⟩
  have hW := B0.out
  repeat (any_goals (first | (with_reducible exact hW) | (with_reducible refine Below.drew ?_) | (with_reducible refine Below.setCell ?_ ?_ _) | (with_reducible refine Below.alloc ?_ ?_ _)))
  all_goals (first | (with_reducible exact Nat.le_refl _) | (simp; done) | (simp; omega))

set_option maxRecDepth 100000 in
theorem imp_NOP (c : CpuN) (hc : c.ok) (w : World) :
    Calls Try.prog 72 #[cpuV c, .string ⟨#[78, 79, 80]⟩, .int .i64 0] w fun e w' => e = .returned (cpuV (impL c [78, 79, 80] 0)) ∧ Below w.heap.size w w' := by
  obtain ⟨hA, hX, hY, hS, hP⟩ := hc
  go_enter Try.func72, Try.ntmps72
  go_wp2_with fail
  refine (flag_NOP c _).mono ?_
  rintro e w1 ⟨rfl, hb⟩
  obtain ⟨q0, q1, b0⟩ := two_call hb
  obtain ⟨g0, g1, g2, g3, g4, g5, g6, g7, g8, g9, g10, f0⟩ := eleven q0
  obtain ⟨h0, h1, h2, h3, h4, h5, h6, h7, h8, h9, h10, f1⟩ := eleven q1
  have B0 := Lib.hid b0
  clear q0 q1 b0 hb
  go_wp2
  refine bodyPost_ret (v := cpuV (impL c [78, 79, 80] 0)) (by simp [results, Try.results72, go_sem, g0, g1, g2, g3, g4, g5, g6, g7, g8, g9, g10, h0, h1, h2, h3, h4, h5, h6, h7, h8, h9, h10, impL, regL, flagL, CpuN.nz, CpuN.chg]) rfl ⟨rfl, ?_⟩
  have hW := B0.out
  repeat (any_goals (first | (with_reducible exact hW) | (with_reducible refine Below.drew ?_) | (with_reducible refine Below.setCell ?_ ?_ _) | (with_reducible refine Below.alloc ?_ ?_ _)))
  all_goals (first | (with_reducible exact Nat.le_refl _) | (simp; done) | (simp; omega))

set_option maxRecDepth 100000 in
theorem imp_TXS (c : CpuN) (hc : c.ok) (w : World) :
    Calls Try.prog 72 #[cpuV c, .string ⟨#[84, 88, 83]⟩, .int .i64 0] w fun e w' => e = .returned (cpuV (impL c [84, 88, 83] 0)) ∧ Below w.heap.size w w' := by
  obtain ⟨hA, hX, hY, hS, hP⟩ := hc
  go_enter Try.func72, Try.ntmps72
  go_wp2_with fail
  refine (flag_TXS c _).mono ?_
  rintro e w1 ⟨rfl, hb⟩
  obtain ⟨q0, q1, b0⟩ := two_call hb
  obtain ⟨g0, g1, g2, g3, g4, g5, g6, g7, g8, g9, g10, f0⟩ := eleven q0
  obtain ⟨h0, h1, h2, h3, h4, h5, h6, h7, h8, h9, h10, f1⟩ := eleven q1
  have B0 := Lib.hid b0
  clear q0 q1 b0 hb
  go_wp2
  refine bodyPost_ret (v := cpuV (impL c [84, 88, 83] 0)) (by simp [results, Try.results72, go_sem, g0, g1, g2, g3, g4, g5, g6, g7, g8, g9, g10, h0, h1, h2, h3, h4, h5, h6, h7, h8, h9, h10, impL, regL, flagL, CpuN.nz, CpuN.chg]) rfl ⟨rfl, ?_⟩
  have hW := B0.out
  repeat (any_goals (first | (with_reducible exact hW) | (with_reducible refine Below.drew ?_) | (with_reducible refine Below.setCell ?_ ?_ _) | (with_reducible refine Below.alloc ?_ ?_ _)))
  all_goals (first | (with_reducible exact Nat.le_refl _) | (simp; done) | (simp; omega))

set_option maxRecDepth 100000 in
theorem imp_TSX (c : CpuN) (hc : c.ok) (w : World) :
    Calls Try.prog 72 #[cpuV c, .string ⟨#[84, 83, 88]⟩, .int .i64 0] w fun e w' => e = .returned (cpuV (impL c [84, 83, 88] 0)) ∧ Below w.heap.size w w' := by
  obtain ⟨hA, hX, hY, hS, hP⟩ := hc
  go_enter Try.func72, Try.ntmps72
  go_wp2_with fail
  refine (specNZ_any _ _ _ _ _ _ _ _ (by omega) (by omega)).mono ?_
  rintro e w1 ⟨rfl, hb⟩
  obtain ⟨q0, q1, b0⟩ := two_call hb
  obtain ⟨g0, g1, g2, g3, g4, g5, g6, g7, g8, g9, g10, f0⟩ := eleven q0
  have HQ := Lib.hid (And.intro q0 (And.intro q1 b0))
  clear q0 q1 b0 hb
  go_wp2_with fail
  refine (flag_TSX ⟨c.A, c.X, c.Y, c.S, c.PC, bit7 (c.S : Int), c.V, c.D, c.I, isZ (c.S : Int), c.C⟩ _).mono ?_
  rintro e w2 ⟨rfl, hb⟩
  obtain ⟨q0, q1, b0⟩ := six_call hb HQ.out (by omega) (Nat.le_refl _)
  clear g0 g1 g2 g3 g4 g5 g6 g7 g8 g9 g10 f0 HQ
  obtain ⟨g0, g1, g2, g3, g4, g5, g6, g7, g8, g9, g10, f0⟩ := eleven q0
  obtain ⟨h0, h1, h2, h3, h4, h5, h6, h7, h8, h9, h10, f1⟩ := eleven q1
  have B0 := Lib.hid b0
  clear q0 q1 b0 hb
  go_wp2
  refine bodyPost_ret (v := cpuV (impL c [84, 83, 88] 0)) (by simp [results, Try.results72, go_sem, g0, g1, g2, g3, g4, g5, g6, g7, g8, g9, g10, h0, h1, h2, h3, h4, h5, h6, h7, h8, h9, h10, impL, regL, flagL, CpuN.nz, CpuN.chg]) rfl ⟨rfl, ?_⟩
  have hW := B0.out
  repeat (any_goals (first | (with_reducible exact hW) | (with_reducible refine Below.drew ?_) | (with_reducible refine Below.setCell ?_ ?_ _) | (with_reducible refine Below.alloc ?_ ?_ _)))
  all_goals (first | (with_reducible exact Nat.le_refl _) | (simp; done) | (simp; omega))

set_option maxRecDepth 100000 in
theorem imp_DEY (c : CpuN) (hc : c.ok) (w : World) :
    Calls Try.prog 72 #[cpuV c, .string ⟨#[68, 69, 89]⟩, .int .i64 0] w fun e w' => e = .returned (cpuV (impL c [68, 69, 89] 0)) ∧ Below w.heap.size w w' := by
  obtain ⟨hA, hX, hY, hS, hP⟩ := hc
  have hx : IntKind.u8.wrap ((c.Y : Int) - 1) = (((c.Y + 255) % 256 : Nat) : Int) := by
    have := u8_of ((c.Y : Int) - 1)
    omega
  obtain ⟨x, hX'⟩ : ∃ x, (c.Y + 255) % 256 = x := ⟨_, rfl⟩
  have hxb : x < 256 := by omega
  rw [hX'] at hx
  have HX := Lib.hid hX'
  clear hX'
  go_enter Try.func72, Try.ntmps72
  go_wp2_with fail
  refine (specNZ_any _ _ _ _ _ _ _ _ (by omega) (by omega)).mono ?_
  rintro e w1 ⟨rfl, hb⟩
  obtain ⟨q0, q1, b0⟩ := two_call hb
  obtain ⟨g0, g1, g2, g3, g4, g5, g6, g7, g8, g9, g10, f0⟩ := eleven q0
  have HQ := Lib.hid (And.intro q0 (And.intro q1 b0))
  clear q0 q1 b0 hb
  go_wp2_with fail
  refine (flag_DEY ⟨c.A, c.X, c.Y, c.S, c.PC, bit7 (x : Int), c.V, c.D, c.I, isZ (x : Int), c.C⟩ _).mono ?_
  rintro e w2 ⟨rfl, hb⟩
  obtain ⟨q0, q1, b0⟩ := six_call hb HQ.out (by omega) (Nat.le_refl _)
  clear g0 g1 g2 g3 g4 g5 g6 g7 g8 g9 g10 f0 HQ
  obtain ⟨g0, g1, g2, g3, g4, g5, g6, g7, g8, g9, g10, f0⟩ := eleven q0
  obtain ⟨h0, h1, h2, h3, h4, h5, h6, h7, h8, h9, h10, f1⟩ := eleven q1
  have B0 := Lib.hid b0
  clear q0 q1 b0 hb
  go_wp2
  refine bodyPost_ret (v := cpuV (impL c [68, 69, 89] 0)) (by simp [results, Try.results72, go_sem, g0, g1, g2, g3, g4, g5, g6, g7, g8, g9, g10, h0, h1, h2, h3, h4, h5, h6, h7, h8, h9, h10, impL, regL, flagL, CpuN.nz, CpuN.chg, HX.out]) rfl ⟨rfl, ?_⟩
  have hW := B0.out
  repeat (any_goals (first | (with_reducible exact hW) | (with_reducible refine Below.drew ?_) | (with_reducible refine Below.setCell ?_ ?_ _) | (with_reducible refine Below.alloc ?_ ?_ _)))
  all_goals (first | (with_reducible exact Nat.le_refl _) | (simp; done) | (simp; omega))

set_option maxRecDepth 100000 in
theorem imp_TAY (c : CpuN) (hc : c.ok) (w : World) :
    Calls Try.prog 72 #[cpuV c, .string ⟨#[84, 65, 89]⟩, .int .i64 0] w fun e w' => e = .returned (cpuV (impL c [84, 65, 89] 0)) ∧ Below w.heap.size w w' := by
  obtain ⟨hA, hX, hY, hS, hP⟩ := hc
  go_enter Try.func72, Try.ntmps72
  go_wp2_with fail
  refine (specNZ_any _ _ _ _ _ _ _ _ (by omega) (by omega)).mono ?_
  rintro e w1 ⟨rfl, hb⟩
  obtain ⟨q0, q1, b0⟩ := two_call hb
  obtain ⟨g0, g1, g2, g3, g4, g5, g6, g7, g8, g9, g10, f0⟩ := eleven q0
  have HQ := Lib.hid (And.intro q0 (And.intro q1 b0))
  clear q0 q1 b0 hb
  go_wp2_with fail
  refine (flag_TAY ⟨c.A, c.X, c.Y, c.S, c.PC, bit7 (c.A : Int), c.V, c.D, c.I, isZ (c.A : Int), c.C⟩ _).mono ?_
  rintro e w2 ⟨rfl, hb⟩
  obtain ⟨q0, q1, b0⟩ := six_call hb HQ.out (by omega) (Nat.le_refl _)
  clear g0 g1 g2 g3 g4 g5 g6 g7 g8 g9 g10 f0 HQ
  obtain ⟨g0, g1, g2, g3, g4, g5, g6, g7, g8, g9, g10, f0⟩ := eleven q0
  obtain ⟨h0, h1, h2, h3, h4, h5, h6, h7, h8, h9, h10, f1⟩ := eleven q1
  have B0 := Lib.hid b0
  clear q0 q1 b0 hb
  go_wp2
  refine bodyPost_ret (v := cpuV (impL c [84, 65, 89] 0)) (by simp [results, Try.results72, go_sem, g0, g1, g2, g3, g4, g5, g6, g7, g8, g9, g10, h0, h1, h2, h3, h4, h5, h6, h7, h8, h9, h10, impL, regL, flagL, CpuN.nz, CpuN.chg]) rfl ⟨rfl, ?_⟩
  have hW := B0.out
  repeat (any_goals (first | (with_reducible exact hW) | (with_reducible refine Below.drew ?_) | (with_reducible refine Below.setCell ?_ ?_ _) | (with_reducible refine Below.alloc ?_ ?_ _)))
  all_goals (first | (with_reducible exact Nat.le_refl _) | (simp; done) | (simp; omega))

set_option maxRecDepth 100000 in
theorem imp_INY (c : CpuN) (hc : c.ok) (w : World) :
    Calls Try.prog 72 #[cpuV c, .string ⟨#[73, 78, 89]⟩, .int .i64 0] w fun e w' => e = .returned (cpuV (impL c [73, 78, 89] 0)) ∧ Below w.heap.size w w' := by
  obtain ⟨hA, hX, hY, hS, hP⟩ := hc
  have hx : IntKind.u8.wrap ((c.Y : Int) + 1) = (((c.Y + 1) % 256 : Nat) : Int) := by
    have := u8_of ((c.Y : Int) + 1)
    omega
  obtain ⟨x, hX'⟩ : ∃ x, (c.Y + 1) % 256 = x := ⟨_, rfl⟩
  have hxb : x < 256 := by omega
  rw [hX'] at hx
  have HX := Lib.hid hX'
  clear hX'
  go_enter Try.func72, Try.ntmps72
  go_wp2_with fail
  refine (specNZ_any _ _ _ _ _ _ _ _ (by omega) (by omega)).mono ?_
  rintro e w1 ⟨rfl, hb⟩
  obtain ⟨q0, q1, b0⟩ := two_call hb
  obtain ⟨g0, g1, g2, g3, g4, g5, g6, g7, g8, g9, g10, f0⟩ := eleven q0
  have HQ := Lib.hid (And.intro q0 (And.intro q1 b0))
  clear q0 q1 b0 hb
  go_wp2_with fail
  refine (flag_INY ⟨c.A, c.X, c.Y, c.S, c.PC, bit7 (x : Int), c.V, c.D, c.I, isZ (x : Int), c.C⟩ _).mono ?_
  rintro e w2 ⟨rfl, hb⟩
  obtain ⟨q0, q1, b0⟩ := six_call hb HQ.out (by omega) (Nat.le_refl _)
  clear g0 g1 g2 g3 g4 g5 g6 g7 g8 g9 g10 f0 HQ
  obtain ⟨g0, g1, g2, g3, g4, g5, g6, g7, g8, g9, g10, f0⟩ := eleven q0
  obtain ⟨h0, h1, h2, h3, h4, h5, h6, h7, h8, h9, h10, f1⟩ := eleven q1
  have B0 := Lib.hid b0
  clear q0 q1 b0 hb
  go_wp2
  refine bodyPost_ret (v := cpuV (impL c [73, 78, 89] 0)) (by simp [results, Try.results72, go_sem, g0, g1, g2, g3, g4, g5, g6, g7, g8, g9, g10, h0, h1, h2, h3, h4, h5, h6, h7, h8, h9, h10, impL, regL, flagL, CpuN.nz, CpuN.chg, HX.out]) rfl ⟨rfl, ?_⟩
  have hW := B0.out
  repeat (any_goals (first | (with_reducible exact hW) | (with_reducible refine Below.drew ?_) | (with_reducible refine Below.setCell ?_ ?_ _) | (with_reducible refine Below.alloc ?_ ?_ _)))
  all_goals (first | (with_reducible exact Nat.le_refl _) | (simp; done) | (simp; omega))

set_option maxRecDepth 100000 in
theorem imp_INX (c : CpuN) (hc : c.ok) (w : World) :
    Calls Try.prog 72 #[cpuV c, .string ⟨#[73, 78, 88]⟩, .int .i64 0] w fun e w' => e = .returned (cpuV (impL c [73, 78, 88] 0)) ∧ Below w.heap.size w w' := by
  obtain ⟨hA, hX, hY, hS, hP⟩ := hc
  have hx : IntKind.u8.wrap ((c.X : Int) + 1) = (((c.X + 1) % 256 : Nat) : Int) := by
    have := u8_of ((c.X : Int) + 1)
    omega
  obtain ⟨x, hX'⟩ : ∃ x, (c.X + 1) % 256 = x := ⟨_, rfl⟩
  have hxb : x < 256 := by omega
  rw [hX'] at hx
  have HX := Lib.hid hX'
  clear hX'
  go_enter Try.func72, Try.ntmps72
  go_wp2_with fail
  refine (specNZ_any _ _ _ _ _ _ _ _ (by omega) (by omega)).mono ?_
  rintro e w1 ⟨rfl, hb⟩
  obtain ⟨q0, q1, b0⟩ := two_call hb
  obtain ⟨g0, g1, g2, g3, g4, g5, g6, g7, g8, g9, g10, f0⟩ := eleven q0
  have HQ := Lib.hid (And.intro q0 (And.intro q1 b0))
  clear q0 q1 b0 hb
  go_wp2_with fail
  refine (flag_INX ⟨c.A, c.X, c.Y, c.S, c.PC, bit7 (x : Int), c.V, c.D, c.I, isZ (x : Int), c.C⟩ _).mono ?_
  rintro e w2 ⟨rfl, hb⟩
  obtain ⟨q0, q1, b0⟩ := six_call hb HQ.out (by omega) (Nat.le_refl _)
  clear g0 g1 g2 g3 g4 g5 g6 g7 g8 g9 g10 f0 HQ
  obtain ⟨g0, g1, g2, g3, g4, g5, g6, g7, g8, g9, g10, f0⟩ := eleven q0
  obtain ⟨h0, h1, h2, h3, h4, h5, h6, h7, h8, h9, h10, f1⟩ := eleven q1
  have B0 := Lib.hid b0
  clear q0 q1 b0 hb
  go_wp2
  refine bodyPost_ret (v := cpuV (impL c [73, 78, 88] 0)) (by simp [results, Try.results72, go_sem, g0, g1, g2, g3, g4, g5, g6, g7, g8, g9, g10, h0, h1, h2, h3, h4, h5, h6, h7, h8, h9, h10, impL, regL, flagL, CpuN.nz, CpuN.chg, HX.out]) rfl ⟨rfl, ?_⟩
  have hW := B0.out
  repeat (any_goals (first | (with_reducible exact hW) | (with_reducible refine Below.drew ?_) | (with_reducible refine Below.setCell ?_ ?_ _) | (with_reducible refine Below.alloc ?_ ?_ _)))
  all_goals (first | (with_reducible exact Nat.le_refl _) | (simp; done) | (simp; omega))

set_option maxRecDepth 100000 in
theorem imp_CLC (c : CpuN) (hc : c.ok) (w : World) :
    Calls Try.prog 72 #[cpuV c, .string ⟨#[67, 76, 67]⟩, .int .i64 0] w fun e w' => e = .returned (cpuV (impL c [67, 76, 67] 0)) ∧ Below w.heap.size w w' := by
  obtain ⟨hA, hX, hY, hS, hP⟩ := hc
  go_enter Try.func72, Try.ntmps72
  go_wp2_with fail
  refine (flag_CLC c _).mono ?_
  rintro e w1 ⟨rfl, hb⟩
  obtain ⟨q0, q1, b0⟩ := two_call hb
  obtain ⟨g0, g1, g2, g3, g4, g5, g6, g7, g8, g9, g10, f0⟩ := eleven q0
  obtain ⟨h0, h1, h2, h3, h4, h5, h6, h7, h8, h9, h10, f1⟩ := eleven q1
  have B0 := Lib.hid b0
  clear q0 q1 b0 hb
  go_wp2
  refine bodyPost_ret (v := cpuV (impL c [67, 76, 67] 0)) (by simp [results, Try.results72, go_sem, g0, g1, g2, g3, g4, g5, g6, g7, g8, g9, g10, h0, h1, h2, h3, h4, h5, h6, h7, h8, h9, h10, impL, regL, flagL, CpuN.nz, CpuN.chg]) rfl ⟨rfl, ?_⟩
  have hW := B0.out
  repeat (any_goals (first | (with_reducible exact hW) | (with_reducible refine Below.drew ?_) | (with_reducible refine Below.setCell ?_ ?_ _) | (with_reducible refine Below.alloc ?_ ?_ _)))
  all_goals (first | (with_reducible exact Nat.le_refl _) | (simp; done) | (simp; omega))

set_option maxRecDepth 100000 in
theorem imp_SEC (c : CpuN) (hc : c.ok) (w : World) :
    Calls Try.prog 72 #[cpuV c, .string ⟨#[83, 69, 67]⟩, .int .i64 0] w fun e w' => e = .returned (cpuV (impL c [83, 69, 67] 0)) ∧ Below w.heap.size w w' := by
  obtain ⟨hA, hX, hY, hS, hP⟩ := hc
  go_enter Try.func72, Try.ntmps72
  go_wp2_with fail
  refine (flag_SEC c _).mono ?_
  rintro e w1 ⟨rfl, hb⟩
  obtain ⟨q0, q1, b0⟩ := two_call hb
  obtain ⟨g0, g1, g2, g3, g4, g5, g6, g7, g8, g9, g10, f0⟩ := eleven q0
  obtain ⟨h0, h1, h2, h3, h4, h5, h6, h7, h8, h9, h10, f1⟩ := eleven q1
  have B0 := Lib.hid b0
  clear q0 q1 b0 hb
  go_wp2
  refine bodyPost_ret (v := cpuV (impL c [83, 69, 67] 0)) (by simp [results, Try.results72, go_sem, g0, g1, g2, g3, g4, g5, g6, g7, g8, g9, g10, h0, h1, h2, h3, h4, h5, h6, h7, h8, h9, h10, impL, regL, flagL, CpuN.nz, CpuN.chg]) rfl ⟨rfl, ?_⟩
  have hW := B0.out
  repeat (any_goals (first | (with_reducible exact hW) | (with_reducible refine Below.drew ?_) | (with_reducible refine Below.setCell ?_ ?_ _) | (with_reducible refine Below.alloc ?_ ?_ _)))
  all_goals (first | (with_reducible exact Nat.le_refl _) | (simp; done) | (simp; omega))

set_option maxRecDepth 100000 in
theorem imp_CLI (c : CpuN) (hc : c.ok) (w : World) :
    Calls Try.prog 72 #[cpuV c, .string ⟨#[67, 76, 73]⟩, .int .i64 0] w fun e w' => e = .returned (cpuV (impL c [67, 76, 73] 0)) ∧ Below w.heap.size w w' := by
  obtain ⟨hA, hX, hY, hS, hP⟩ := hc
  go_enter Try.func72, Try.ntmps72
  go_wp2_with fail
  refine (flag_CLI c _).mono ?_
  rintro e w1 ⟨rfl, hb⟩
  obtain ⟨q0, q1, b0⟩ := two_call hb
  obtain ⟨g0, g1, g2, g3, g4, g5, g6, g7, g8, g9, g10, f0⟩ := eleven q0
  obtain ⟨h0, h1, h2, h3, h4, h5, h6, h7, h8, h9, h10, f1⟩ := eleven q1
  have B0 := Lib.hid b0
  clear q0 q1 b0 hb
  go_wp2
  refine bodyPost_ret (v := cpuV (impL c [67, 76, 73] 0)) (by simp [results, Try.results72, go_sem, g0, g1, g2, g3, g4, g5, g6, g7, g8, g9, g10, h0, h1, h2, h3, h4, h5, h6, h7, h8, h9, h10, impL, regL, flagL, CpuN.nz, CpuN.chg]) rfl ⟨rfl, ?_⟩
  have hW := B0.out
  repeat (any_goals (first | (with_reducible exact hW) | (with_reducible refine Below.drew ?_) | (with_reducible refine Below.setCell ?_ ?_ _) | (with_reducible refine Below.alloc ?_ ?_ _)))
  all_goals (first | (with_reducible exact Nat.le_refl _) | (simp; done) | (simp; omega))

set_option maxRecDepth 100000 in
theorem imp_SEI (c : CpuN) (hc : c.ok) (w : World) :
    Calls Try.prog 72 #[cpuV c, .string ⟨#[83, 69, 73]⟩, .int .i64 0] w fun e w' => e = .returned (cpuV (impL c [83, 69, 73] 0)) ∧ Below w.heap.size w w' := by
  obtain ⟨hA, hX, hY, hS, hP⟩ := hc
  go_enter Try.func72, Try.ntmps72
  go_wp2_with fail
  refine (flag_SEI c _).mono ?_
  rintro e w1 ⟨rfl, hb⟩
  obtain ⟨q0, q1, b0⟩ := two_call hb
  obtain ⟨g0, g1, g2, g3, g4, g5, g6, g7, g8, g9, g10, f0⟩ := eleven q0
  obtain ⟨h0, h1, h2, h3, h4, h5, h6, h7, h8, h9, h10, f1⟩ := eleven q1
  have B0 := Lib.hid b0
  clear q0 q1 b0 hb
  go_wp2
  refine bodyPost_ret (v := cpuV (impL c [83, 69, 73] 0)) (by simp [results, Try.results72, go_sem, g0, g1, g2, g3, g4, g5, g6, g7, g8, g9, g10, h0, h1, h2, h3, h4, h5, h6, h7, h8, h9, h10, impL, regL, flagL, CpuN.nz, CpuN.chg]) rfl ⟨rfl, ?_⟩
  have hW := B0.out
  repeat (any_goals (first | (with_reducible exact hW) | (with_reducible refine Below.drew ?_) | (with_reducible refine Below.setCell ?_ ?_ _) | (with_reducible refine Below.alloc ?_ ?_ _)))
  all_goals (first | (with_reducible exact Nat.le_refl _) | (simp; done) | (simp; omega))

set_option maxRecDepth 100000 in
theorem imp_TYA (c : CpuN) (hc : c.ok) (w : World) :
    Calls Try.prog 72 #[cpuV c, .string ⟨#[84, 89, 65]⟩, .int .i64 0] w fun e w' => e = .returned (cpuV (impL c [84, 89, 65] 0)) ∧ Below w.heap.size w w' := by
  obtain ⟨hA, hX, hY, hS, hP⟩ := hc
  go_enter Try.func72, Try.ntmps72
  go_wp2_with fail
  refine (specNZ_any _ _ _ _ _ _ _ _ (by omega) (by omega)).mono ?_
  rintro e w1 ⟨rfl, hb⟩
  obtain ⟨q0, q1, b0⟩ := two_call hb
  obtain ⟨g0, g1, g2, g3, g4, g5, g6, g7, g8, g9, g10, f0⟩ := eleven q0
  have HQ := Lib.hid (And.intro q0 (And.intro q1 b0))
  clear q0 q1 b0 hb
  go_wp2_with fail
  refine (flag_TYA ⟨c.A, c.X, c.Y, c.S, c.PC, bit7 (c.Y : Int), c.V, c.D, c.I, isZ (c.Y : Int), c.C⟩ _).mono ?_
  rintro e w2 ⟨rfl, hb⟩
  obtain ⟨q0, q1, b0⟩ := six_call hb HQ.out (by omega) (Nat.le_refl _)
  clear g0 g1 g2 g3 g4 g5 g6 g7 g8 g9 g10 f0 HQ
  obtain ⟨g0, g1, g2, g3, g4, g5, g6, g7, g8, g9, g10, f0⟩ := eleven q0
  obtain ⟨h0, h1, h2, h3, h4, h5, h6, h7, h8, h9, h10, f1⟩ := eleven q1
  have B0 := Lib.hid b0
  clear q0 q1 b0 hb
  go_wp2
  refine bodyPost_ret (v := cpuV (impL c [84, 89, 65] 0)) (by simp [results, Try.results72, go_sem, g0, g1, g2, g3, g4, g5, g6, g7, g8, g9, g10, h0, h1, h2, h3, h4, h5, h6, h7, h8, h9, h10, impL, regL, flagL, CpuN.nz, CpuN.chg]) rfl ⟨rfl, ?_⟩
  have hW := B0.out
  repeat (any_goals (first | (with_reducible exact hW) | (with_reducible refine Below.drew ?_) | (with_reducible refine Below.setCell ?_ ?_ _) | (with_reducible refine Below.alloc ?_ ?_ _)))
  all_goals (first | (with_reducible exact Nat.le_refl _) | (simp; done) | (simp; omega))

set_option maxRecDepth 100000 in
theorem imp_CLV (c : CpuN) (hc : c.ok) (w : World) :
    Calls Try.prog 72 #[cpuV c, .string ⟨#[67, 76, 86]⟩, .int .i64 0] w fun e w' => e = .returned (cpuV (impL c [67, 76, 86] 0)) ∧ Below w.heap.size w w' := by
  obtain ⟨hA, hX, hY, hS, hP⟩ := hc
  go_enter Try.func72, Try.ntmps72
  go_wp2_with fail
  refine (flag_CLV c _).mono ?_
  rintro e w1 ⟨rfl, hb⟩
  obtain ⟨q0, q1, b0⟩ := two_call hb
  obtain ⟨g0, g1, g2, g3, g4, g5, g6, g7, g8, g9, g10, f0⟩ := eleven q0
  obtain ⟨h0, h1, h2, h3, h4, h5, h6, h7, h8, h9, h10, f1⟩ := eleven q1
  have B0 := Lib.hid b0
  clear q0 q1 b0 hb
  go_wp2
  refine bodyPost_ret (v := cpuV (impL c [67, 76, 86] 0)) (by simp [results, Try.results72, go_sem, g0, g1, g2, g3, g4, g5, g6, g7, g8, g9, g10, h0, h1, h2, h3, h4, h5, h6, h7, h8, h9, h10, impL, regL, flagL, CpuN.nz, CpuN.chg]) rfl ⟨rfl, ?_⟩
  have hW := B0.out
  repeat (any_goals (first | (with_reducible exact hW) | (with_reducible refine Below.drew ?_) | (with_reducible refine Below.setCell ?_ ?_ _) | (with_reducible refine Below.alloc ?_ ?_ _)))
  all_goals (first | (with_reducible exact Nat.le_refl _) | (simp; done) | (simp; omega))

set_option maxRecDepth 100000 in
theorem imp_CLD (c : CpuN) (hc : c.ok) (w : World) :
    Calls Try.prog 72 #[cpuV c, .string ⟨#[67, 76, 68]⟩, .int .i64 0] w fun e w' => e = .returned (cpuV (impL c [67, 76, 68] 0)) ∧ Below w.heap.size w w' := by
  obtain ⟨hA, hX, hY, hS, hP⟩ := hc
  go_enter Try.func72, Try.ntmps72
  go_wp2_with fail
  refine (flag_CLD c _).mono ?_
  rintro e w1 ⟨rfl, hb⟩
  obtain ⟨q0, q1, b0⟩ := two_call hb
  obtain ⟨g0, g1, g2, g3, g4, g5, g6, g7, g8, g9, g10, f0⟩ := eleven q0
  obtain ⟨h0, h1, h2, h3, h4, h5, h6, h7, h8, h9, h10, f1⟩ := eleven q1
  have B0 := Lib.hid b0
  clear q0 q1 b0 hb
  go_wp2
  refine bodyPost_ret (v := cpuV (impL c [67, 76, 68] 0)) (by simp [results, Try.results72, go_sem, g0, g1, g2, g3, g4, g5, g6, g7, g8, g9, g10, h0, h1, h2, h3, h4, h5, h6, h7, h8, h9, h10, impL, regL, flagL, CpuN.nz, CpuN.chg]) rfl ⟨rfl, ?_⟩
  have hW := B0.out
  repeat (any_goals (first | (with_reducible exact hW) | (with_reducible refine Below.drew ?_) | (with_reducible refine Below.setCell ?_ ?_ _) | (with_reducible refine Below.alloc ?_ ?_ _)))
  all_goals (first | (with_reducible exact Nat.le_refl _) | (simp; done) | (simp; omega))

set_option maxRecDepth 100000 in
theorem imp_SED (c : CpuN) (hc : c.ok) (w : World) :
    Calls Try.prog 72 #[cpuV c, .string ⟨#[83, 69, 68]⟩, .int .i64 0] w fun e w' => e = .returned (cpuV (impL c [83, 69, 68] 0)) ∧ Below w.heap.size w w' := by
  obtain ⟨hA, hX, hY, hS, hP⟩ := hc
  go_enter Try.func72, Try.ntmps72
  go_wp2_with fail
  refine (flag_SED c _).mono ?_
  rintro e w1 ⟨rfl, hb⟩
  obtain ⟨q0, q1, b0⟩ := two_call hb
  obtain ⟨g0, g1, g2, g3, g4, g5, g6, g7, g8, g9, g10, f0⟩ := eleven q0
  obtain ⟨h0, h1, h2, h3, h4, h5, h6, h7, h8, h9, h10, f1⟩ := eleven q1
  have B0 := Lib.hid b0
  clear q0 q1 b0 hb
  go_wp2
  refine bodyPost_ret (v := cpuV (impL c [83, 69, 68] 0)) (by simp [results, Try.results72, go_sem, g0, g1, g2, g3, g4, g5, g6, g7, g8, g9, g10, h0, h1, h2, h3, h4, h5, h6, h7, h8, h9, h10, impL, regL, flagL, CpuN.nz, CpuN.chg]) rfl ⟨rfl, ?_⟩
  have hW := B0.out
  repeat (any_goals (first | (with_reducible exact hW) | (with_reducible refine Below.drew ?_) | (with_reducible refine Below.setCell ?_ ?_ _) | (with_reducible refine Below.alloc ?_ ?_ _)))
  all_goals (first | (with_reducible exact Nat.le_refl _) | (simp; done) | (simp; omega))

set_option maxRecDepth 100000 in
theorem acc_ASL (c : CpuN) (hc : c.ok) (w : World) :
    Calls Try.prog 72 #[cpuV c, .string ⟨#[65, 83, 76]⟩, .int .i64 1] w fun e w' => e = .returned (cpuV (impL c [65, 83, 76] 1)) ∧ Below w.heap.size w w' := by
  obtain ⟨hA, hX, hY, hS, hP⟩ := hc
  go_enter Try.func72, Try.ntmps72
  go_wp2_with fail
  refine (chg_ASL c c.A hA _).mono ?_
  rintro e w1 ⟨rfl, hb⟩
  obtain ⟨q0, q1, b0⟩ := two_call hb
  obtain ⟨g0, g1, g2, g3, g4, g5, g6, g7, g8, g9, g10, f0⟩ := eleven q0
  obtain ⟨h0, h1, h2, h3, h4, h5, h6, h7, h8, h9, h10, f1⟩ := eleven q1
  have B0 := Lib.hid b0
  clear q0 q1 b0 hb
  go_wp2
  refine bodyPost_ret (v := cpuV (impL c [65, 83, 76] 1)) (by simp [results, Try.results72, go_sem, g0, g1, g2, g3, g4, g5, g6, g7, g8, g9, g10, h0, h1, h2, h3, h4, h5, h6, h7, h8, h9, h10, impL, regL, flagL, CpuN.nz, CpuN.chg]) rfl ⟨rfl, ?_⟩
  have hW := B0.out
  repeat (any_goals (first | (with_reducible exact hW) | (with_reducible refine Below.drew ?_) | (with_reducible refine Below.setCell ?_ ?_ _) | (with_reducible refine Below.alloc ?_ ?_ _)))
  all_goals (first | (with_reducible exact Nat.le_refl _) | (simp; done) | (simp; omega))

set_option maxRecDepth 100000 in
theorem acc_ROL (c : CpuN) (hc : c.ok) (w : World) :
    Calls Try.prog 72 #[cpuV c, .string ⟨#[82, 79, 76]⟩, .int .i64 1] w fun e w' => e = .returned (cpuV (impL c [82, 79, 76] 1)) ∧ Below w.heap.size w w' := by
  obtain ⟨hA, hX, hY, hS, hP⟩ := hc
  go_enter Try.func72, Try.ntmps72
  go_wp2_with fail
  refine (chg_ROL c c.A hA _).mono ?_
  rintro e w1 ⟨rfl, hb⟩
  obtain ⟨q0, q1, b0⟩ := two_call hb
  obtain ⟨g0, g1, g2, g3, g4, g5, g6, g7, g8, g9, g10, f0⟩ := eleven q0
  obtain ⟨h0, h1, h2, h3, h4, h5, h6, h7, h8, h9, h10, f1⟩ := eleven q1
  have B0 := Lib.hid b0
  clear q0 q1 b0 hb
  go_wp2
  refine bodyPost_ret (v := cpuV (impL c [82, 79, 76] 1)) (by simp [results, Try.results72, go_sem, g0, g1, g2, g3, g4, g5, g6, g7, g8, g9, g10, h0, h1, h2, h3, h4, h5, h6, h7, h8, h9, h10, impL, regL, flagL, CpuN.nz, CpuN.chg]) rfl ⟨rfl, ?_⟩
  have hW := B0.out
  repeat (any_goals (first | (with_reducible exact hW) | (with_reducible refine Below.drew ?_) | (with_reducible refine Below.setCell ?_ ?_ _) | (with_reducible refine Below.alloc ?_ ?_ _)))
  all_goals (first | (with_reducible exact Nat.le_refl _) | (simp; done) | (simp; omega))

set_option maxRecDepth 100000 in
theorem acc_LSR (c : CpuN) (hc : c.ok) (w : World) :
    Calls Try.prog 72 #[cpuV c, .string ⟨#[76, 83, 82]⟩, .int .i64 1] w fun e w' => e = .returned (cpuV (impL c [76, 83, 82] 1)) ∧ Below w.heap.size w w' := by
  obtain ⟨hA, hX, hY, hS, hP⟩ := hc
  go_enter Try.func72, Try.ntmps72
  go_wp2_with fail
  refine (chg_LSR c c.A hA _).mono ?_
  rintro e w1 ⟨rfl, hb⟩
  obtain ⟨q0, q1, b0⟩ := two_call hb
  obtain ⟨g0, g1, g2, g3, g4, g5, g6, g7, g8, g9, g10, f0⟩ := eleven q0
  obtain ⟨h0, h1, h2, h3, h4, h5, h6, h7, h8, h9, h10, f1⟩ := eleven q1
  have B0 := Lib.hid b0
  clear q0 q1 b0 hb
  go_wp2
  refine bodyPost_ret (v := cpuV (impL c [76, 83, 82] 1)) (by simp [results, Try.results72, go_sem, g0, g1, g2, g3, g4, g5, g6, g7, g8, g9, g10, h0, h1, h2, h3, h4, h5, h6, h7, h8, h9, h10, impL, regL, flagL, CpuN.nz, CpuN.chg]) rfl ⟨rfl, ?_⟩
  have hW := B0.out
  repeat (any_goals (first | (with_reducible exact hW) | (with_reducible refine Below.drew ?_) | (with_reducible refine Below.setCell ?_ ?_ _) | (with_reducible refine Below.alloc ?_ ?_ _)))
  all_goals (first | (with_reducible exact Nat.le_refl _) | (simp; done) | (simp; omega))

set_option maxRecDepth 100000 in
theorem acc_ROR (c : CpuN) (hc : c.ok) (w : World) :
    Calls Try.prog 72 #[cpuV c, .string ⟨#[82, 79, 82]⟩, .int .i64 1] w fun e w' => e = .returned (cpuV (impL c [82, 79, 82] 1)) ∧ Below w.heap.size w w' := by
  obtain ⟨hA, hX, hY, hS, hP⟩ := hc
  go_enter Try.func72, Try.ntmps72
  go_wp2_with fail
  refine (chg_ROR c c.A hA _).mono ?_
  rintro e w1 ⟨rfl, hb⟩
  obtain ⟨q0, q1, b0⟩ := two_call hb
  obtain ⟨g0, g1, g2, g3, g4, g5, g6, g7, g8, g9, g10, f0⟩ := eleven q0
  obtain ⟨h0, h1, h2, h3, h4, h5, h6, h7, h8, h9, h10, f1⟩ := eleven q1
  have B0 := Lib.hid b0
  clear q0 q1 b0 hb
  go_wp2
  refine bodyPost_ret (v := cpuV (impL c [82, 79, 82] 1)) (by simp [results, Try.results72, go_sem, g0, g1, g2, g3, g4, g5, g6, g7, g8, g9, g10, h0, h1, h2, h3, h4, h5, h6, h7, h8, h9, h10, impL, regL, flagL, CpuN.nz, CpuN.chg]) rfl ⟨rfl, ?_⟩
  have hW := B0.out
  repeat (any_goals (first | (with_reducible exact hW) | (with_reducible refine Below.drew ?_) | (with_reducible refine Below.setCell ?_ ?_ _) | (with_reducible refine Below.alloc ?_ ?_ _)))
  all_goals (first | (with_reducible exact Nat.le_refl _) | (simp; done) | (simp; omega))

theorem imp_any (i : Nat) (hi : i ∈ [17, 18, 19, 20, 21, 22, 37, 38, 39, 40, 49, 50, 51, 52, 53, 54, 55, 56]) (c : CpuN) (hc : c.ok) (w : World) :
    Calls Try.prog 72 #[cpuV c, .string (opTx i), .int .i64 0] w fun e w' => e = .returned (cpuV (impL c (opTx i).toList 0)) ∧ Below w.heap.size w w' := by
  simp only [List.mem_cons, List.not_mem_nil, or_false] at hi
  rcases hi with rfl | rfl | rfl | rfl | rfl | rfl | rfl | rfl | rfl | rfl | rfl | rfl | rfl | rfl | rfl | rfl | rfl | rfl
  · rw [show (opTx 17).toList = [84, 88, 65] by rw [ByteArray.toList_eq]; rfl]; exact imp_TXA c hc w
  · rw [show (opTx 18).toList = [84, 65, 88] by rw [ByteArray.toList_eq]; rfl]; exact imp_TAX c hc w
  · rw [show (opTx 19).toList = [68, 69, 88] by rw [ByteArray.toList_eq]; rfl]; exact imp_DEX c hc w
  · rw [show (opTx 20).toList = [78, 79, 80] by rw [ByteArray.toList_eq]; rfl]; exact imp_NOP c hc w
  · rw [show (opTx 21).toList = [84, 88, 83] by rw [ByteArray.toList_eq]; rfl]; exact imp_TXS c hc w
  · rw [show (opTx 22).toList = [84, 83, 88] by rw [ByteArray.toList_eq]; rfl]; exact imp_TSX c hc w
  · rw [show (opTx 37).toList = [68, 69, 89] by rw [ByteArray.toList_eq]; rfl]; exact imp_DEY c hc w
  · rw [show (opTx 38).toList = [84, 65, 89] by rw [ByteArray.toList_eq]; rfl]; exact imp_TAY c hc w
  · rw [show (opTx 39).toList = [73, 78, 89] by rw [ByteArray.toList_eq]; rfl]; exact imp_INY c hc w
  · rw [show (opTx 40).toList = [73, 78, 88] by rw [ByteArray.toList_eq]; rfl]; exact imp_INX c hc w
  · rw [show (opTx 49).toList = [67, 76, 67] by rw [ByteArray.toList_eq]; rfl]; exact imp_CLC c hc w
  · rw [show (opTx 50).toList = [83, 69, 67] by rw [ByteArray.toList_eq]; rfl]; exact imp_SEC c hc w
  · rw [show (opTx 51).toList = [67, 76, 73] by rw [ByteArray.toList_eq]; rfl]; exact imp_CLI c hc w
  · rw [show (opTx 52).toList = [83, 69, 73] by rw [ByteArray.toList_eq]; rfl]; exact imp_SEI c hc w
  · rw [show (opTx 53).toList = [84, 89, 65] by rw [ByteArray.toList_eq]; rfl]; exact imp_TYA c hc w
  · rw [show (opTx 54).toList = [67, 76, 86] by rw [ByteArray.toList_eq]; rfl]; exact imp_CLV c hc w
  · rw [show (opTx 55).toList = [67, 76, 68] by rw [ByteArray.toList_eq]; rfl]; exact imp_CLD c hc w
  · rw [show (opTx 56).toList = [83, 69, 68] by rw [ByteArray.toList_eq]; rfl]; exact imp_SED c hc w

theorem acc_any (i : Nat) (hi : i ∈ [9, 10, 11, 12]) (c : CpuN) (hc : c.ok) (w : World) :
    Calls Try.prog 72 #[cpuV c, .string (opTx i), .int .i64 1] w fun e w' => e = .returned (cpuV (impL c (opTx i).toList 1)) ∧ Below w.heap.size w w' := by
  simp only [List.mem_cons, List.not_mem_nil, or_false] at hi
  rcases hi with rfl | rfl | rfl | rfl
  · rw [show (opTx 9).toList = [65, 83, 76] by rw [ByteArray.toList_eq]; rfl]; exact acc_ASL c hc w
  · rw [show (opTx 10).toList = [82, 79, 76] by rw [ByteArray.toList_eq]; rfl]; exact acc_ROL c hc w
  · rw [show (opTx 11).toList = [76, 83, 82] by rw [ByteArray.toList_eq]; rfl]; exact acc_LSR c hc w
  · rw [show (opTx 12).toList = [82, 79, 82] by rw [ByteArray.toList_eq]; rfl]; exact acc_ROR c hc w

end Go.Proofs.Ytckfdbjjjgfbfaa
