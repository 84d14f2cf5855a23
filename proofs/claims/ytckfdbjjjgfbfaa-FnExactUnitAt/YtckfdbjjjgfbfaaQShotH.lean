/-
  Shots: the exact laws' own size, copy and test of equality.
-/
import Derived.Test.YtckfdbjjjgfbfaaQShotA
import Derived.Test.YtckfdbjjjgfbfaaQBoxPart
import Derived.Test.YtckfdbjjjgfbfaaQRamLaws
namespace Go.Proofs.Ytckfdbjjjgfbfaa
set_option linter.unusedVariables false
set_option linter.unusedSimpArgs false
open Go.RowKit

set_option maxRecDepth 100000
set_option maxHeartbeats 1000000

theorem szShot_fits (c : CpuN) (am ta sa pa : Option Addr) (n1 c1 n2 c2 n3 c3 n4 c4 : Nat) (j : Bool) (l : Nat) (hl : l ≤ 1048576) (hn : n1 + n2 + n3 + n4 ≤ l) (w : World) :
    Calls Try.prog 15 #[shotV c (.slice am n1 c1) (.slice ta n2 c2) (.slice sa n3 c3) (.slice pa n4 c4) j, .int .i64 l] w fun e w' => ∃ q : Int, 0 ≤ q ∧ e = .returned (.int .i64 q) ∧ Below w.heap.size w w' := by
  obtain ⟨l1, hl1⟩ : ∃ l1 : Int, (l : Int) - n1 = l1 := ⟨_, rfl⟩
  obtain ⟨l2, hl2⟩ : ∃ l2 : Int, l1 - n2 = l2 := ⟨_, rfl⟩
  obtain ⟨l3, hl3⟩ : ∃ l3 : Int, l2 - n3 = l3 := ⟨_, rfl⟩
  obtain ⟨l4, hl4⟩ : ∃ l4 : Int, l3 - n4 = l4 := ⟨_, rfl⟩
  have H1 := fun w => szRam_any am n1 c1 l (by unfold maxLen; omega) (by omega) w
  have H2 := fun w => szCyc_any ta n2 c2 l1 (by unfold maxLen; omega) (by omega) w
  have H3 := fun w => szInt_any sa n3 c3 l2 (by unfold maxLen; omega) (by omega) w
  have H4 := fun w => szCpu_any pa n4 c4 l3 (by unfold maxLen; omega) (by omega) w
  rw [if_neg (by omega), hl1] at H1
  rw [if_neg (by omega), hl2] at H2
  rw [if_neg (by omega), hl3] at H3
  rw [if_neg (by omega), hl4] at H4
  have k1 : ¬ l1 < 0 := by omega
  have k2 : ¬ l2 < 0 := by omega
  have k3 : ¬ l3 < 0 := by omega
  have k4 : ¬ l4 < 0 := by omega
  have HL := Lib.hid (show 0 ≤ l4 by omega)
  clear hl1 hl2 hl3 hl4
  have b0 : Below w.heap.size w w := Below.refl _ _
  have d1 : Below w.heap.size w (w.alloc (.cells #[.int .u8 (c.A : Int), .int .u8 (c.X : Int), .int .u8 (c.Y : Int), .int .u8 (c.S : Int), .int .u16 (c.PC : Int), .bool c.N, .bool c.V, .bool c.D, .bool c.I, .bool c.Z, .bool c.C, .slice am n1 c1, .slice ta n2 c2, .slice sa n3 c3, .slice pa n4 c4, .bool j] 52)) := (Below.refl _ _).alloc (Nat.le_refl _) _
  have p2 : BoxN (w.alloc (.cells #[.int .u8 (c.A : Int), .int .u8 (c.X : Int), .int .u8 (c.Y : Int), .int .u8 (c.S : Int), .int .u16 (c.PC : Int), .bool c.N, .bool c.V, .bool c.D, .bool c.I, .bool c.Z, .bool c.C, .slice am n1 c1, .slice ta n2 c2, .slice sa n3 c3, .slice pa n4 c4, .bool j] 52)) w.heap.size 52 #[.int .u8 (c.A : Int), .int .u8 (c.X : Int), .int .u8 (c.Y : Int), .int .u8 (c.S : Int), .int .u16 (c.PC : Int), .bool c.N, .bool c.V, .bool c.D, .bool c.I, .bool c.Z, .bool c.C, .slice am n1 c1, .slice ta n2 c2, .slice sa n3 c3, .slice pa n4 c4, .bool j] := BoxN.new _ _ _
  have z3 : Hid ((w.alloc (.cells #[.int .u8 (c.A : Int), .int .u8 (c.X : Int), .int .u8 (c.Y : Int), .int .u8 (c.S : Int), .int .u16 (c.PC : Int), .bool c.N, .bool c.V, .bool c.D, .bool c.I, .bool c.Z, .bool c.C, .slice am n1 c1, .slice ta n2 c2, .slice sa n3 c3, .slice pa n4 c4, .bool j] 52)).heap.size = w.heap.size + 1) := Lib.hid (World.size_alloc _ _)
  have b4 := bstep b0 d1
  have z5 := Lib.hid d1.size
  clear b0 d1
  go_enter Try.func15, Try.ntmps15
  have c6 := p2.cell 0 (.int .u8 (c.A : Int)) rfl
  have c7 := p2.cell 1 (.int .u8 (c.X : Int)) rfl
  have c8 := p2.cell 2 (.int .u8 (c.Y : Int)) rfl
  have c9 := p2.cell 3 (.int .u8 (c.S : Int)) rfl
  have c10 := p2.cell 4 (.int .u16 (c.PC : Int)) rfl
  have c11 := p2.cell 5 (.bool c.N) rfl
  have c12 := p2.cell 6 (.bool c.V) rfl
  have c13 := p2.cell 7 (.bool c.D) rfl
  have c14 := p2.cell 8 (.bool c.I) rfl
  have c15 := p2.cell 9 (.bool c.Z) rfl
  have c16 := p2.cell 10 (.bool c.C) rfl
  have c17 := p2.cell 11 (.slice am n1 c1) rfl
  have c18 := p2.cell 12 (.slice ta n2 c2) rfl
  have c19 := p2.cell 13 (.slice sa n3 c3) rfl
  have c20 := p2.cell 14 (.slice pa n4 c4) rfl
  have c21 := p2.cell 15 (.bool j) rfl
  go_wp2_with fail
  refine (H1 _).mono ?_
  rintro e w22 ⟨rfl, d23⟩
  have b24 := bstep b4 d23
  have p25 := p2.below d23
  have z26 := Lib.hid d23.size
  clear b4 p2 c6 c7 c8 c9 c10 c11 c12 c13 c14 c15 c16 c17 c18 c19 c20 c21 d23
  have c27 := p25.cell 0 (.int .u8 (c.A : Int)) rfl
  have c28 := p25.cell 1 (.int .u8 (c.X : Int)) rfl
  have c29 := p25.cell 2 (.int .u8 (c.Y : Int)) rfl
  have c30 := p25.cell 3 (.int .u8 (c.S : Int)) rfl
  have c31 := p25.cell 4 (.int .u16 (c.PC : Int)) rfl
  have c32 := p25.cell 5 (.bool c.N) rfl
  have c33 := p25.cell 6 (.bool c.V) rfl
  have c34 := p25.cell 7 (.bool c.D) rfl
  have c35 := p25.cell 8 (.bool c.I) rfl
  have c36 := p25.cell 9 (.bool c.Z) rfl
  have c37 := p25.cell 10 (.bool c.C) rfl
  have c38 := p25.cell 11 (.slice am n1 c1) rfl
  have c39 := p25.cell 12 (.slice ta n2 c2) rfl
  have c40 := p25.cell 13 (.slice sa n3 c3) rfl
  have c41 := p25.cell 14 (.slice pa n4 c4) rfl
  have c42 := p25.cell 15 (.bool j) rfl
  go_wp2_with fail
  refine (H2 _).mono ?_
  rintro e w43 ⟨rfl, d44⟩
  have b45 := bstep b24 d44
  have p46 := p25.below d44
  have z47 := Lib.hid d44.size
  clear b24 p25 c27 c28 c29 c30 c31 c32 c33 c34 c35 c36 c37 c38 c39 c40 c41 c42 d44
  have c48 := p46.cell 0 (.int .u8 (c.A : Int)) rfl
  have c49 := p46.cell 1 (.int .u8 (c.X : Int)) rfl
  have c50 := p46.cell 2 (.int .u8 (c.Y : Int)) rfl
  have c51 := p46.cell 3 (.int .u8 (c.S : Int)) rfl
  have c52 := p46.cell 4 (.int .u16 (c.PC : Int)) rfl
  have c53 := p46.cell 5 (.bool c.N) rfl
  have c54 := p46.cell 6 (.bool c.V) rfl
  have c55 := p46.cell 7 (.bool c.D) rfl
  have c56 := p46.cell 8 (.bool c.I) rfl
  have c57 := p46.cell 9 (.bool c.Z) rfl
  have c58 := p46.cell 10 (.bool c.C) rfl
  have c59 := p46.cell 11 (.slice am n1 c1) rfl
  have c60 := p46.cell 12 (.slice ta n2 c2) rfl
  have c61 := p46.cell 13 (.slice sa n3 c3) rfl
  have c62 := p46.cell 14 (.slice pa n4 c4) rfl
  have c63 := p46.cell 15 (.bool j) rfl
  go_wp2_with fail
  refine (H3 _).mono ?_
  rintro e w64 ⟨rfl, d65⟩
  have b66 := bstep b45 d65
  have p67 := p46.below d65
  have z68 := Lib.hid d65.size
  clear b45 p46 c48 c49 c50 c51 c52 c53 c54 c55 c56 c57 c58 c59 c60 c61 c62 c63 d65
  have c69 := p67.cell 0 (.int .u8 (c.A : Int)) rfl
  have c70 := p67.cell 1 (.int .u8 (c.X : Int)) rfl
  have c71 := p67.cell 2 (.int .u8 (c.Y : Int)) rfl
  have c72 := p67.cell 3 (.int .u8 (c.S : Int)) rfl
  have c73 := p67.cell 4 (.int .u16 (c.PC : Int)) rfl
  have c74 := p67.cell 5 (.bool c.N) rfl
  have c75 := p67.cell 6 (.bool c.V) rfl
  have c76 := p67.cell 7 (.bool c.D) rfl
  have c77 := p67.cell 8 (.bool c.I) rfl
  have c78 := p67.cell 9 (.bool c.Z) rfl
  have c79 := p67.cell 10 (.bool c.C) rfl
  have c80 := p67.cell 11 (.slice am n1 c1) rfl
  have c81 := p67.cell 12 (.slice ta n2 c2) rfl
  have c82 := p67.cell 13 (.slice sa n3 c3) rfl
  have c83 := p67.cell 14 (.slice pa n4 c4) rfl
  have c84 := p67.cell 15 (.bool j) rfl
  go_wp2_with fail
  refine (H4 _).mono ?_
  rintro e w85 ⟨rfl, d86⟩
  have b87 := bstep b66 d86
  have p88 := p67.below d86
  have z89 := Lib.hid d86.size
  clear b66 p67 c69 c70 c71 c72 c73 c74 c75 c76 c77 c78 c79 c80 c81 c82 c83 c84 d86
  go_wp2
  go_ret
  exact ⟨_, HL.out, rfl, b87⟩

theorem szShot_no0 (c : CpuN) (am ta sa pa : Option Addr) (n1 c1 n2 c2 n3 c3 n4 c4 : Nat) (j : Bool) (l : Nat) (hl : l ≤ 1048576) (m1 : n1 ≤ maxLen) (m2 : n2 ≤ maxLen) (m3 : n3 ≤ maxLen) (m4 : n4 ≤ maxLen) (hy : 0 ≤ l) (hn : l < n1) (w : World) :
    Calls Try.prog 15 #[shotV c (.slice am n1 c1) (.slice ta n2 c2) (.slice sa n3 c3) (.slice pa n4 c4) j, .int .i64 l] w fun e w' => e = .returned (.int .i64 (-1)) ∧ Below w.heap.size w w' := by
  have H1 := fun w => szRam_any am n1 c1 l m1 (by omega) w
  rw [if_pos (by omega)] at H1
  clear hn hy m1 m2 m3 m4
  have b0 : Below w.heap.size w w := Below.refl _ _
  have d1 : Below w.heap.size w (w.alloc (.cells #[.int .u8 (c.A : Int), .int .u8 (c.X : Int), .int .u8 (c.Y : Int), .int .u8 (c.S : Int), .int .u16 (c.PC : Int), .bool c.N, .bool c.V, .bool c.D, .bool c.I, .bool c.Z, .bool c.C, .slice am n1 c1, .slice ta n2 c2, .slice sa n3 c3, .slice pa n4 c4, .bool j] 52)) := (Below.refl _ _).alloc (Nat.le_refl _) _
  have p2 : BoxN (w.alloc (.cells #[.int .u8 (c.A : Int), .int .u8 (c.X : Int), .int .u8 (c.Y : Int), .int .u8 (c.S : Int), .int .u16 (c.PC : Int), .bool c.N, .bool c.V, .bool c.D, .bool c.I, .bool c.Z, .bool c.C, .slice am n1 c1, .slice ta n2 c2, .slice sa n3 c3, .slice pa n4 c4, .bool j] 52)) w.heap.size 52 #[.int .u8 (c.A : Int), .int .u8 (c.X : Int), .int .u8 (c.Y : Int), .int .u8 (c.S : Int), .int .u16 (c.PC : Int), .bool c.N, .bool c.V, .bool c.D, .bool c.I, .bool c.Z, .bool c.C, .slice am n1 c1, .slice ta n2 c2, .slice sa n3 c3, .slice pa n4 c4, .bool j] := BoxN.new _ _ _
  have z3 : Hid ((w.alloc (.cells #[.int .u8 (c.A : Int), .int .u8 (c.X : Int), .int .u8 (c.Y : Int), .int .u8 (c.S : Int), .int .u16 (c.PC : Int), .bool c.N, .bool c.V, .bool c.D, .bool c.I, .bool c.Z, .bool c.C, .slice am n1 c1, .slice ta n2 c2, .slice sa n3 c3, .slice pa n4 c4, .bool j] 52)).heap.size = w.heap.size + 1) := Lib.hid (World.size_alloc _ _)
  have b4 := bstep b0 d1
  have z5 := Lib.hid d1.size
  clear b0 d1
  go_enter Try.func15, Try.ntmps15
  have c6 := p2.cell 0 (.int .u8 (c.A : Int)) rfl
  have c7 := p2.cell 1 (.int .u8 (c.X : Int)) rfl
  have c8 := p2.cell 2 (.int .u8 (c.Y : Int)) rfl
  have c9 := p2.cell 3 (.int .u8 (c.S : Int)) rfl
  have c10 := p2.cell 4 (.int .u16 (c.PC : Int)) rfl
  have c11 := p2.cell 5 (.bool c.N) rfl
  have c12 := p2.cell 6 (.bool c.V) rfl
  have c13 := p2.cell 7 (.bool c.D) rfl
  have c14 := p2.cell 8 (.bool c.I) rfl
  have c15 := p2.cell 9 (.bool c.Z) rfl
  have c16 := p2.cell 10 (.bool c.C) rfl
  have c17 := p2.cell 11 (.slice am n1 c1) rfl
  have c18 := p2.cell 12 (.slice ta n2 c2) rfl
  have c19 := p2.cell 13 (.slice sa n3 c3) rfl
  have c20 := p2.cell 14 (.slice pa n4 c4) rfl
  have c21 := p2.cell 15 (.bool j) rfl
  go_wp2_with fail
  refine (H1 _).mono ?_
  rintro e w22 ⟨rfl, d23⟩
  have b24 := bstep b4 d23
  have p25 := p2.below d23
  have z26 := Lib.hid d23.size
  clear b4 p2 c6 c7 c8 c9 c10 c11 c12 c13 c14 c15 c16 c17 c18 c19 c20 c21 d23
  go_wp2
  go_ret
  exact ⟨rfl, b24⟩

theorem szShot_no1 (c : CpuN) (am ta sa pa : Option Addr) (n1 c1 n2 c2 n3 c3 n4 c4 : Nat) (j : Bool) (l : Nat) (hl : l ≤ 1048576) (m1 : n1 ≤ maxLen) (m2 : n2 ≤ maxLen) (m3 : n3 ≤ maxLen) (m4 : n4 ≤ maxLen) (hy : 0 + n1 ≤ l) (hn : l < n1 + n2) (w : World) :
    Calls Try.prog 15 #[shotV c (.slice am n1 c1) (.slice ta n2 c2) (.slice sa n3 c3) (.slice pa n4 c4) j, .int .i64 l] w fun e w' => e = .returned (.int .i64 (-1)) ∧ Below w.heap.size w w' := by
  obtain ⟨l1, hl1⟩ : ∃ q : Int, (l : Int) - n1 = q := ⟨_, rfl⟩
  have H1 := fun w => szRam_any am n1 c1 l m1 (by omega) w
  rw [if_neg (by omega), hl1] at H1
  have k1 : ¬ l1 < 0 := by omega
  have H2 := fun w => szCyc_any ta n2 c2 l1 m2 (by omega) w
  rw [if_pos (by omega)] at H2
  clear hl1
  clear hn hy m1 m2 m3 m4
  have b0 : Below w.heap.size w w := Below.refl _ _
  have d1 : Below w.heap.size w (w.alloc (.cells #[.int .u8 (c.A : Int), .int .u8 (c.X : Int), .int .u8 (c.Y : Int), .int .u8 (c.S : Int), .int .u16 (c.PC : Int), .bool c.N, .bool c.V, .bool c.D, .bool c.I, .bool c.Z, .bool c.C, .slice am n1 c1, .slice ta n2 c2, .slice sa n3 c3, .slice pa n4 c4, .bool j] 52)) := (Below.refl _ _).alloc (Nat.le_refl _) _
  have p2 : BoxN (w.alloc (.cells #[.int .u8 (c.A : Int), .int .u8 (c.X : Int), .int .u8 (c.Y : Int), .int .u8 (c.S : Int), .int .u16 (c.PC : Int), .bool c.N, .bool c.V, .bool c.D, .bool c.I, .bool c.Z, .bool c.C, .slice am n1 c1, .slice ta n2 c2, .slice sa n3 c3, .slice pa n4 c4, .bool j] 52)) w.heap.size 52 #[.int .u8 (c.A : Int), .int .u8 (c.X : Int), .int .u8 (c.Y : Int), .int .u8 (c.S : Int), .int .u16 (c.PC : Int), .bool c.N, .bool c.V, .bool c.D, .bool c.I, .bool c.Z, .bool c.C, .slice am n1 c1, .slice ta n2 c2, .slice sa n3 c3, .slice pa n4 c4, .bool j] := BoxN.new _ _ _
  have z3 : Hid ((w.alloc (.cells #[.int .u8 (c.A : Int), .int .u8 (c.X : Int), .int .u8 (c.Y : Int), .int .u8 (c.S : Int), .int .u16 (c.PC : Int), .bool c.N, .bool c.V, .bool c.D, .bool c.I, .bool c.Z, .bool c.C, .slice am n1 c1, .slice ta n2 c2, .slice sa n3 c3, .slice pa n4 c4, .bool j] 52)).heap.size = w.heap.size + 1) := Lib.hid (World.size_alloc _ _)
  have b4 := bstep b0 d1
  have z5 := Lib.hid d1.size
  clear b0 d1
  go_enter Try.func15, Try.ntmps15
  have c6 := p2.cell 0 (.int .u8 (c.A : Int)) rfl
  have c7 := p2.cell 1 (.int .u8 (c.X : Int)) rfl
  have c8 := p2.cell 2 (.int .u8 (c.Y : Int)) rfl
  have c9 := p2.cell 3 (.int .u8 (c.S : Int)) rfl
  have c10 := p2.cell 4 (.int .u16 (c.PC : Int)) rfl
  have c11 := p2.cell 5 (.bool c.N) rfl
  have c12 := p2.cell 6 (.bool c.V) rfl
  have c13 := p2.cell 7 (.bool c.D) rfl
  have c14 := p2.cell 8 (.bool c.I) rfl
  have c15 := p2.cell 9 (.bool c.Z) rfl
  have c16 := p2.cell 10 (.bool c.C) rfl
  have c17 := p2.cell 11 (.slice am n1 c1) rfl
  have c18 := p2.cell 12 (.slice ta n2 c2) rfl
  have c19 := p2.cell 13 (.slice sa n3 c3) rfl
  have c20 := p2.cell 14 (.slice pa n4 c4) rfl
  have c21 := p2.cell 15 (.bool j) rfl
  go_wp2_with fail
  refine (H1 _).mono ?_
  rintro e w22 ⟨rfl, d23⟩
  have b24 := bstep b4 d23
  have p25 := p2.below d23
  have z26 := Lib.hid d23.size
  clear b4 p2 c6 c7 c8 c9 c10 c11 c12 c13 c14 c15 c16 c17 c18 c19 c20 c21 d23
  have c27 := p25.cell 0 (.int .u8 (c.A : Int)) rfl
  have c28 := p25.cell 1 (.int .u8 (c.X : Int)) rfl
  have c29 := p25.cell 2 (.int .u8 (c.Y : Int)) rfl
  have c30 := p25.cell 3 (.int .u8 (c.S : Int)) rfl
  have c31 := p25.cell 4 (.int .u16 (c.PC : Int)) rfl
  have c32 := p25.cell 5 (.bool c.N) rfl
  have c33 := p25.cell 6 (.bool c.V) rfl
  have c34 := p25.cell 7 (.bool c.D) rfl
  have c35 := p25.cell 8 (.bool c.I) rfl
  have c36 := p25.cell 9 (.bool c.Z) rfl
  have c37 := p25.cell 10 (.bool c.C) rfl
  have c38 := p25.cell 11 (.slice am n1 c1) rfl
  have c39 := p25.cell 12 (.slice ta n2 c2) rfl
  have c40 := p25.cell 13 (.slice sa n3 c3) rfl
  have c41 := p25.cell 14 (.slice pa n4 c4) rfl
  have c42 := p25.cell 15 (.bool j) rfl
  go_wp2_with fail
  refine (H2 _).mono ?_
  rintro e w43 ⟨rfl, d44⟩
  have b45 := bstep b24 d44
  have p46 := p25.below d44
  have z47 := Lib.hid d44.size
  clear b24 p25 c27 c28 c29 c30 c31 c32 c33 c34 c35 c36 c37 c38 c39 c40 c41 c42 d44
  go_wp2
  go_ret
  exact ⟨rfl, b45⟩

theorem szShot_no2 (c : CpuN) (am ta sa pa : Option Addr) (n1 c1 n2 c2 n3 c3 n4 c4 : Nat) (j : Bool) (l : Nat) (hl : l ≤ 1048576) (m1 : n1 ≤ maxLen) (m2 : n2 ≤ maxLen) (m3 : n3 ≤ maxLen) (m4 : n4 ≤ maxLen) (hy : 0 + n1 + n2 ≤ l) (hn : l < n1 + n2 + n3) (w : World) :
    Calls Try.prog 15 #[shotV c (.slice am n1 c1) (.slice ta n2 c2) (.slice sa n3 c3) (.slice pa n4 c4) j, .int .i64 l] w fun e w' => e = .returned (.int .i64 (-1)) ∧ Below w.heap.size w w' := by
  obtain ⟨l1, hl1⟩ : ∃ q : Int, (l : Int) - n1 = q := ⟨_, rfl⟩
  have H1 := fun w => szRam_any am n1 c1 l m1 (by omega) w
  rw [if_neg (by omega), hl1] at H1
  have k1 : ¬ l1 < 0 := by omega
  obtain ⟨l2, hl2⟩ : ∃ q : Int, l1 - n2 = q := ⟨_, rfl⟩
  have H2 := fun w => szCyc_any ta n2 c2 l1 m2 (by omega) w
  rw [if_neg (by omega), hl2] at H2
  have k2 : ¬ l2 < 0 := by omega
  have H3 := fun w => szInt_any sa n3 c3 l2 m3 (by omega) w
  rw [if_pos (by omega)] at H3
  clear hl1 hl2
  clear hn hy m1 m2 m3 m4
  have b0 : Below w.heap.size w w := Below.refl _ _
  have d1 : Below w.heap.size w (w.alloc (.cells #[.int .u8 (c.A : Int), .int .u8 (c.X : Int), .int .u8 (c.Y : Int), .int .u8 (c.S : Int), .int .u16 (c.PC : Int), .bool c.N, .bool c.V, .bool c.D, .bool c.I, .bool c.Z, .bool c.C, .slice am n1 c1, .slice ta n2 c2, .slice sa n3 c3, .slice pa n4 c4, .bool j] 52)) := (Below.refl _ _).alloc (Nat.le_refl _) _
  have p2 : BoxN (w.alloc (.cells #[.int .u8 (c.A : Int), .int .u8 (c.X : Int), .int .u8 (c.Y : Int), .int .u8 (c.S : Int), .int .u16 (c.PC : Int), .bool c.N, .bool c.V, .bool c.D, .bool c.I, .bool c.Z, .bool c.C, .slice am n1 c1, .slice ta n2 c2, .slice sa n3 c3, .slice pa n4 c4, .bool j] 52)) w.heap.size 52 #[.int .u8 (c.A : Int), .int .u8 (c.X : Int), .int .u8 (c.Y : Int), .int .u8 (c.S : Int), .int .u16 (c.PC : Int), .bool c.N, .bool c.V, .bool c.D, .bool c.I, .bool c.Z, .bool c.C, .slice am n1 c1, .slice ta n2 c2, .slice sa n3 c3, .slice pa n4 c4, .bool j] := BoxN.new _ _ _
  have z3 : Hid ((w.alloc (.cells #[.int .u8 (c.A : Int), .int .u8 (c.X : Int), .int .u8 (c.Y : Int), .int .u8 (c.S : Int), .int .u16 (c.PC : Int), .bool c.N, .bool c.V, .bool c.D, .bool c.I, .bool c.Z, .bool c.C, .slice am n1 c1, .slice ta n2 c2, .slice sa n3 c3, .slice pa n4 c4, .bool j] 52)).heap.size = w.heap.size + 1) := Lib.hid (World.size_alloc _ _)
  have b4 := bstep b0 d1
  have z5 := Lib.hid d1.size
  clear b0 d1
  go_enter Try.func15, Try.ntmps15
  have c6 := p2.cell 0 (.int .u8 (c.A : Int)) rfl
  have c7 := p2.cell 1 (.int .u8 (c.X : Int)) rfl
  have c8 := p2.cell 2 (.int .u8 (c.Y : Int)) rfl
  have c9 := p2.cell 3 (.int .u8 (c.S : Int)) rfl
  have c10 := p2.cell 4 (.int .u16 (c.PC : Int)) rfl
  have c11 := p2.cell 5 (.bool c.N) rfl
  have c12 := p2.cell 6 (.bool c.V) rfl
  have c13 := p2.cell 7 (.bool c.D) rfl
  have c14 := p2.cell 8 (.bool c.I) rfl
  have c15 := p2.cell 9 (.bool c.Z) rfl
  have c16 := p2.cell 10 (.bool c.C) rfl
  have c17 := p2.cell 11 (.slice am n1 c1) rfl
  have c18 := p2.cell 12 (.slice ta n2 c2) rfl
  have c19 := p2.cell 13 (.slice sa n3 c3) rfl
  have c20 := p2.cell 14 (.slice pa n4 c4) rfl
  have c21 := p2.cell 15 (.bool j) rfl
  go_wp2_with fail
  refine (H1 _).mono ?_
  rintro e w22 ⟨rfl, d23⟩
  have b24 := bstep b4 d23
  have p25 := p2.below d23
  have z26 := Lib.hid d23.size
  clear b4 p2 c6 c7 c8 c9 c10 c11 c12 c13 c14 c15 c16 c17 c18 c19 c20 c21 d23
  have c27 := p25.cell 0 (.int .u8 (c.A : Int)) rfl
  have c28 := p25.cell 1 (.int .u8 (c.X : Int)) rfl
  have c29 := p25.cell 2 (.int .u8 (c.Y : Int)) rfl
  have c30 := p25.cell 3 (.int .u8 (c.S : Int)) rfl
  have c31 := p25.cell 4 (.int .u16 (c.PC : Int)) rfl
  have c32 := p25.cell 5 (.bool c.N) rfl
  have c33 := p25.cell 6 (.bool c.V) rfl
  have c34 := p25.cell 7 (.bool c.D) rfl
  have c35 := p25.cell 8 (.bool c.I) rfl
  have c36 := p25.cell 9 (.bool c.Z) rfl
  have c37 := p25.cell 10 (.bool c.C) rfl
  have c38 := p25.cell 11 (.slice am n1 c1) rfl
  have c39 := p25.cell 12 (.slice ta n2 c2) rfl
  have c40 := p25.cell 13 (.slice sa n3 c3) rfl
  have c41 := p25.cell 14 (.slice pa n4 c4) rfl
  have c42 := p25.cell 15 (.bool j) rfl
  go_wp2_with fail
  refine (H2 _).mono ?_
  rintro e w43 ⟨rfl, d44⟩
  have b45 := bstep b24 d44
  have p46 := p25.below d44
  have z47 := Lib.hid d44.size
  clear b24 p25 c27 c28 c29 c30 c31 c32 c33 c34 c35 c36 c37 c38 c39 c40 c41 c42 d44
  have c48 := p46.cell 0 (.int .u8 (c.A : Int)) rfl
  have c49 := p46.cell 1 (.int .u8 (c.X : Int)) rfl
  have c50 := p46.cell 2 (.int .u8 (c.Y : Int)) rfl
  have c51 := p46.cell 3 (.int .u8 (c.S : Int)) rfl
  have c52 := p46.cell 4 (.int .u16 (c.PC : Int)) rfl
  have c53 := p46.cell 5 (.bool c.N) rfl
  have c54 := p46.cell 6 (.bool c.V) rfl
  have c55 := p46.cell 7 (.bool c.D) rfl
  have c56 := p46.cell 8 (.bool c.I) rfl
  have c57 := p46.cell 9 (.bool c.Z) rfl
  have c58 := p46.cell 10 (.bool c.C) rfl
  have c59 := p46.cell 11 (.slice am n1 c1) rfl
  have c60 := p46.cell 12 (.slice ta n2 c2) rfl
  have c61 := p46.cell 13 (.slice sa n3 c3) rfl
  have c62 := p46.cell 14 (.slice pa n4 c4) rfl
  have c63 := p46.cell 15 (.bool j) rfl
  go_wp2_with fail
  refine (H3 _).mono ?_
  rintro e w64 ⟨rfl, d65⟩
  have b66 := bstep b45 d65
  have p67 := p46.below d65
  have z68 := Lib.hid d65.size
  clear b45 p46 c48 c49 c50 c51 c52 c53 c54 c55 c56 c57 c58 c59 c60 c61 c62 c63 d65
  go_wp2
  go_ret
  exact ⟨rfl, b66⟩

theorem szShot_no3 (c : CpuN) (am ta sa pa : Option Addr) (n1 c1 n2 c2 n3 c3 n4 c4 : Nat) (j : Bool) (l : Nat) (hl : l ≤ 1048576) (m1 : n1 ≤ maxLen) (m2 : n2 ≤ maxLen) (m3 : n3 ≤ maxLen) (m4 : n4 ≤ maxLen) (hy : 0 + n1 + n2 + n3 ≤ l) (hn : l < n1 + n2 + n3 + n4) (w : World) :
    Calls Try.prog 15 #[shotV c (.slice am n1 c1) (.slice ta n2 c2) (.slice sa n3 c3) (.slice pa n4 c4) j, .int .i64 l] w fun e w' => e = .returned (.int .i64 (-1)) ∧ Below w.heap.size w w' := by
  obtain ⟨l1, hl1⟩ : ∃ q : Int, (l : Int) - n1 = q := ⟨_, rfl⟩
  have H1 := fun w => szRam_any am n1 c1 l m1 (by omega) w
  rw [if_neg (by omega), hl1] at H1
  have k1 : ¬ l1 < 0 := by omega
  obtain ⟨l2, hl2⟩ : ∃ q : Int, l1 - n2 = q := ⟨_, rfl⟩
  have H2 := fun w => szCyc_any ta n2 c2 l1 m2 (by omega) w
  rw [if_neg (by omega), hl2] at H2
  have k2 : ¬ l2 < 0 := by omega
  obtain ⟨l3, hl3⟩ : ∃ q : Int, l2 - n3 = q := ⟨_, rfl⟩
  have H3 := fun w => szInt_any sa n3 c3 l2 m3 (by omega) w
  rw [if_neg (by omega), hl3] at H3
  have k3 : ¬ l3 < 0 := by omega
  have H4 := fun w => szCpu_any pa n4 c4 l3 m4 (by omega) w
  rw [if_pos (by omega)] at H4
  clear hl1 hl2 hl3
  clear hn hy m1 m2 m3 m4
  have b0 : Below w.heap.size w w := Below.refl _ _
  have d1 : Below w.heap.size w (w.alloc (.cells #[.int .u8 (c.A : Int), .int .u8 (c.X : Int), .int .u8 (c.Y : Int), .int .u8 (c.S : Int), .int .u16 (c.PC : Int), .bool c.N, .bool c.V, .bool c.D, .bool c.I, .bool c.Z, .bool c.C, .slice am n1 c1, .slice ta n2 c2, .slice sa n3 c3, .slice pa n4 c4, .bool j] 52)) := (Below.refl _ _).alloc (Nat.le_refl _) _
  have p2 : BoxN (w.alloc (.cells #[.int .u8 (c.A : Int), .int .u8 (c.X : Int), .int .u8 (c.Y : Int), .int .u8 (c.S : Int), .int .u16 (c.PC : Int), .bool c.N, .bool c.V, .bool c.D, .bool c.I, .bool c.Z, .bool c.C, .slice am n1 c1, .slice ta n2 c2, .slice sa n3 c3, .slice pa n4 c4, .bool j] 52)) w.heap.size 52 #[.int .u8 (c.A : Int), .int .u8 (c.X : Int), .int .u8 (c.Y : Int), .int .u8 (c.S : Int), .int .u16 (c.PC : Int), .bool c.N, .bool c.V, .bool c.D, .bool c.I, .bool c.Z, .bool c.C, .slice am n1 c1, .slice ta n2 c2, .slice sa n3 c3, .slice pa n4 c4, .bool j] := BoxN.new _ _ _
  have z3 : Hid ((w.alloc (.cells #[.int .u8 (c.A : Int), .int .u8 (c.X : Int), .int .u8 (c.Y : Int), .int .u8 (c.S : Int), .int .u16 (c.PC : Int), .bool c.N, .bool c.V, .bool c.D, .bool c.I, .bool c.Z, .bool c.C, .slice am n1 c1, .slice ta n2 c2, .slice sa n3 c3, .slice pa n4 c4, .bool j] 52)).heap.size = w.heap.size + 1) := Lib.hid (World.size_alloc _ _)
  have b4 := bstep b0 d1
  have z5 := Lib.hid d1.size
  clear b0 d1
  go_enter Try.func15, Try.ntmps15
  have c6 := p2.cell 0 (.int .u8 (c.A : Int)) rfl
  have c7 := p2.cell 1 (.int .u8 (c.X : Int)) rfl
  have c8 := p2.cell 2 (.int .u8 (c.Y : Int)) rfl
  have c9 := p2.cell 3 (.int .u8 (c.S : Int)) rfl
  have c10 := p2.cell 4 (.int .u16 (c.PC : Int)) rfl
  have c11 := p2.cell 5 (.bool c.N) rfl
  have c12 := p2.cell 6 (.bool c.V) rfl
  have c13 := p2.cell 7 (.bool c.D) rfl
  have c14 := p2.cell 8 (.bool c.I) rfl
  have c15 := p2.cell 9 (.bool c.Z) rfl
  have c16 := p2.cell 10 (.bool c.C) rfl
  have c17 := p2.cell 11 (.slice am n1 c1) rfl
  have c18 := p2.cell 12 (.slice ta n2 c2) rfl
  have c19 := p2.cell 13 (.slice sa n3 c3) rfl
  have c20 := p2.cell 14 (.slice pa n4 c4) rfl
  have c21 := p2.cell 15 (.bool j) rfl
  go_wp2_with fail
  refine (H1 _).mono ?_
  rintro e w22 ⟨rfl, d23⟩
  have b24 := bstep b4 d23
  have p25 := p2.below d23
  have z26 := Lib.hid d23.size
  clear b4 p2 c6 c7 c8 c9 c10 c11 c12 c13 c14 c15 c16 c17 c18 c19 c20 c21 d23
  have c27 := p25.cell 0 (.int .u8 (c.A : Int)) rfl
  have c28 := p25.cell 1 (.int .u8 (c.X : Int)) rfl
  have c29 := p25.cell 2 (.int .u8 (c.Y : Int)) rfl
  have c30 := p25.cell 3 (.int .u8 (c.S : Int)) rfl
  have c31 := p25.cell 4 (.int .u16 (c.PC : Int)) rfl
  have c32 := p25.cell 5 (.bool c.N) rfl
  have c33 := p25.cell 6 (.bool c.V) rfl
  have c34 := p25.cell 7 (.bool c.D) rfl
  have c35 := p25.cell 8 (.bool c.I) rfl
  have c36 := p25.cell 9 (.bool c.Z) rfl
  have c37 := p25.cell 10 (.bool c.C) rfl
  have c38 := p25.cell 11 (.slice am n1 c1) rfl
  have c39 := p25.cell 12 (.slice ta n2 c2) rfl
  have c40 := p25.cell 13 (.slice sa n3 c3) rfl
  have c41 := p25.cell 14 (.slice pa n4 c4) rfl
  have c42 := p25.cell 15 (.bool j) rfl
  go_wp2_with fail
  refine (H2 _).mono ?_
  rintro e w43 ⟨rfl, d44⟩
  have b45 := bstep b24 d44
  have p46 := p25.below d44
  have z47 := Lib.hid d44.size
  clear b24 p25 c27 c28 c29 c30 c31 c32 c33 c34 c35 c36 c37 c38 c39 c40 c41 c42 d44
  have c48 := p46.cell 0 (.int .u8 (c.A : Int)) rfl
  have c49 := p46.cell 1 (.int .u8 (c.X : Int)) rfl
  have c50 := p46.cell 2 (.int .u8 (c.Y : Int)) rfl
  have c51 := p46.cell 3 (.int .u8 (c.S : Int)) rfl
  have c52 := p46.cell 4 (.int .u16 (c.PC : Int)) rfl
  have c53 := p46.cell 5 (.bool c.N) rfl
  have c54 := p46.cell 6 (.bool c.V) rfl
  have c55 := p46.cell 7 (.bool c.D) rfl
  have c56 := p46.cell 8 (.bool c.I) rfl
  have c57 := p46.cell 9 (.bool c.Z) rfl
  have c58 := p46.cell 10 (.bool c.C) rfl
  have c59 := p46.cell 11 (.slice am n1 c1) rfl
  have c60 := p46.cell 12 (.slice ta n2 c2) rfl
  have c61 := p46.cell 13 (.slice sa n3 c3) rfl
  have c62 := p46.cell 14 (.slice pa n4 c4) rfl
  have c63 := p46.cell 15 (.bool j) rfl
  go_wp2_with fail
  refine (H3 _).mono ?_
  rintro e w64 ⟨rfl, d65⟩
  have b66 := bstep b45 d65
  have p67 := p46.below d65
  have z68 := Lib.hid d65.size
  clear b45 p46 c48 c49 c50 c51 c52 c53 c54 c55 c56 c57 c58 c59 c60 c61 c62 c63 d65
  have c69 := p67.cell 0 (.int .u8 (c.A : Int)) rfl
  have c70 := p67.cell 1 (.int .u8 (c.X : Int)) rfl
  have c71 := p67.cell 2 (.int .u8 (c.Y : Int)) rfl
  have c72 := p67.cell 3 (.int .u8 (c.S : Int)) rfl
  have c73 := p67.cell 4 (.int .u16 (c.PC : Int)) rfl
  have c74 := p67.cell 5 (.bool c.N) rfl
  have c75 := p67.cell 6 (.bool c.V) rfl
  have c76 := p67.cell 7 (.bool c.D) rfl
  have c77 := p67.cell 8 (.bool c.I) rfl
  have c78 := p67.cell 9 (.bool c.Z) rfl
  have c79 := p67.cell 10 (.bool c.C) rfl
  have c80 := p67.cell 11 (.slice am n1 c1) rfl
  have c81 := p67.cell 12 (.slice ta n2 c2) rfl
  have c82 := p67.cell 13 (.slice sa n3 c3) rfl
  have c83 := p67.cell 14 (.slice pa n4 c4) rfl
  have c84 := p67.cell 15 (.bool j) rfl
  go_wp2_with fail
  refine (H4 _).mono ?_
  rintro e w85 ⟨rfl, d86⟩
  have b87 := bstep b66 d86
  have p88 := p67.below d86
  have z89 := Lib.hid d86.size
  clear b66 p67 c69 c70 c71 c72 c73 c74 c75 c76 c77 c78 c79 c80 c81 c82 c83 c84 d86
  go_wp2
  go_ret
  exact ⟨rfl, b87⟩

theorem szShot_no (c : CpuN) (am ta sa pa : Option Addr) (n1 c1 n2 c2 n3 c3 n4 c4 : Nat) (j : Bool) (l : Nat) (hl : l ≤ 1048576) (m1 : n1 ≤ maxLen) (m2 : n2 ≤ maxLen) (m3 : n3 ≤ maxLen) (m4 : n4 ≤ maxLen) (hn : l < n1 + n2 + n3 + n4) (w : World) :
    Calls Try.prog 15 #[shotV c (.slice am n1 c1) (.slice ta n2 c2) (.slice sa n3 c3) (.slice pa n4 c4) j, .int .i64 l] w fun e w' => e = .returned (.int .i64 (-1)) ∧ Below w.heap.size w w' := by
  by_cases h1 : l < n1
  · exact szShot_no0 c am ta sa pa n1 c1 n2 c2 n3 c3 n4 c4 j l hl m1 m2 m3 m4 (by omega) h1 w
  · by_cases h2 : l < n1 + n2
    · exact szShot_no1 c am ta sa pa n1 c1 n2 c2 n3 c3 n4 c4 j l hl m1 m2 m3 m4 (by omega) h2 w
    · by_cases h3 : l < n1 + n2 + n3
      · exact szShot_no2 c am ta sa pa n1 c1 n2 c2 n3 c3 n4 c4 j l hl m1 m2 m3 m4 (by omega) h3 w
      · exact szShot_no3 c am ta sa pa n1 c1 n2 c2 n3 c3 n4 c4 j l hl m1 m2 m3 m4 (by omega) hn w

theorem eqShot_any (s : ShotI) (am ta sa pa am' ta' sa' pa' : Option Addr) (c1 c2 c3 c4 c1' c2' c3' c4' : Nat) (w : World) (hs : s.small) (h1 : ShotRows w am ta sa pa s) (h2 : ShotRows w am' ta' sa' pa' s) :
    Calls Try.prog 18 #[shotV s.cpu (.slice am s.mem.length c1) (.slice ta s.trace.length c2) (.slice sa s.starts.length c3) (.slice pa s.cpus.length c4) s.jam, shotV s.cpu (.slice am' s.mem.length c1') (.slice ta' s.trace.length c2') (.slice sa' s.starts.length c3') (.slice pa' s.cpus.length c4') s.jam] w fun e w' => e = .returned (.bool true) ∧ Below w.heap.size w w' := by
  have HS := Lib.hid hs
  have H1 := Lib.hid h1
  have H2 := Lib.hid h2
  clear hs h1 h2
  have b1 := Below.refl w.heap.size w
  have y0 : BoxN (w.alloc (.cells #[.int .u8 (s.cpu.A : Int), .int .u8 (s.cpu.X : Int), .int .u8 (s.cpu.Y : Int), .int .u8 (s.cpu.S : Int), .int .u16 (s.cpu.PC : Int), .bool s.cpu.N, .bool s.cpu.V, .bool s.cpu.D, .bool s.cpu.I, .bool s.cpu.Z, .bool s.cpu.C, .slice am s.mem.length c1, .slice ta s.trace.length c2, .slice sa s.starts.length c3, .slice pa s.cpus.length c4, .bool s.jam] 35)) w.heap.size 35 #[.int .u8 (s.cpu.A : Int), .int .u8 (s.cpu.X : Int), .int .u8 (s.cpu.Y : Int), .int .u8 (s.cpu.S : Int), .int .u16 (s.cpu.PC : Int), .bool s.cpu.N, .bool s.cpu.V, .bool s.cpu.D, .bool s.cpu.I, .bool s.cpu.Z, .bool s.cpu.C, .slice am s.mem.length c1, .slice ta s.trace.length c2, .slice sa s.starts.length c3, .slice pa s.cpus.length c4, .bool s.jam] := by
    have h := BoxN.new w 35 #[.int .u8 (s.cpu.A : Int), .int .u8 (s.cpu.X : Int), .int .u8 (s.cpu.Y : Int), .int .u8 (s.cpu.S : Int), .int .u16 (s.cpu.PC : Int), .bool s.cpu.N, .bool s.cpu.V, .bool s.cpu.D, .bool s.cpu.I, .bool s.cpu.Z, .bool s.cpu.C, .slice am s.mem.length c1, .slice ta s.trace.length c2, .slice sa s.starts.length c3, .slice pa s.cpus.length c4, .bool s.jam]
    simpa only [World.size_alloc] using h
  have a0 := alw w (.cells #[.int .u8 (s.cpu.A : Int), .int .u8 (s.cpu.X : Int), .int .u8 (s.cpu.Y : Int), .int .u8 (s.cpu.S : Int), .int .u16 (s.cpu.PC : Int), .bool s.cpu.N, .bool s.cpu.V, .bool s.cpu.D, .bool s.cpu.I, .bool s.cpu.Z, .bool s.cpu.C, .slice am s.mem.length c1, .slice ta s.trace.length c2, .slice sa s.starts.length c3, .slice pa s.cpus.length c4, .bool s.jam] 35)
  have b1 := bstep b1 a0
  have y1 : BoxN ((w.alloc (.cells #[.int .u8 (s.cpu.A : Int), .int .u8 (s.cpu.X : Int), .int .u8 (s.cpu.Y : Int), .int .u8 (s.cpu.S : Int), .int .u16 (s.cpu.PC : Int), .bool s.cpu.N, .bool s.cpu.V, .bool s.cpu.D, .bool s.cpu.I, .bool s.cpu.Z, .bool s.cpu.C, .slice am s.mem.length c1, .slice ta s.trace.length c2, .slice sa s.starts.length c3, .slice pa s.cpus.length c4, .bool s.jam] 35)).alloc (.cells #[.int .u8 (s.cpu.A : Int), .int .u8 (s.cpu.X : Int), .int .u8 (s.cpu.Y : Int), .int .u8 (s.cpu.S : Int), .int .u16 (s.cpu.PC : Int), .bool s.cpu.N, .bool s.cpu.V, .bool s.cpu.D, .bool s.cpu.I, .bool s.cpu.Z, .bool s.cpu.C, .slice am' s.mem.length c1', .slice ta' s.trace.length c2', .slice sa' s.starts.length c3', .slice pa' s.cpus.length c4', .bool s.jam] 35)) (w.heap.size + 1) 35 #[.int .u8 (s.cpu.A : Int), .int .u8 (s.cpu.X : Int), .int .u8 (s.cpu.Y : Int), .int .u8 (s.cpu.S : Int), .int .u16 (s.cpu.PC : Int), .bool s.cpu.N, .bool s.cpu.V, .bool s.cpu.D, .bool s.cpu.I, .bool s.cpu.Z, .bool s.cpu.C, .slice am' s.mem.length c1', .slice ta' s.trace.length c2', .slice sa' s.starts.length c3', .slice pa' s.cpus.length c4', .bool s.jam] := by
    have h := BoxN.new (w.alloc (.cells #[.int .u8 (s.cpu.A : Int), .int .u8 (s.cpu.X : Int), .int .u8 (s.cpu.Y : Int), .int .u8 (s.cpu.S : Int), .int .u16 (s.cpu.PC : Int), .bool s.cpu.N, .bool s.cpu.V, .bool s.cpu.D, .bool s.cpu.I, .bool s.cpu.Z, .bool s.cpu.C, .slice am s.mem.length c1, .slice ta s.trace.length c2, .slice sa s.starts.length c3, .slice pa s.cpus.length c4, .bool s.jam] 35)) 35 #[.int .u8 (s.cpu.A : Int), .int .u8 (s.cpu.X : Int), .int .u8 (s.cpu.Y : Int), .int .u8 (s.cpu.S : Int), .int .u16 (s.cpu.PC : Int), .bool s.cpu.N, .bool s.cpu.V, .bool s.cpu.D, .bool s.cpu.I, .bool s.cpu.Z, .bool s.cpu.C, .slice am' s.mem.length c1', .slice ta' s.trace.length c2', .slice sa' s.starts.length c3', .slice pa' s.cpus.length c4', .bool s.jam]
    simpa only [World.size_alloc] using h
  have a1 := alw (w.alloc (.cells #[.int .u8 (s.cpu.A : Int), .int .u8 (s.cpu.X : Int), .int .u8 (s.cpu.Y : Int), .int .u8 (s.cpu.S : Int), .int .u16 (s.cpu.PC : Int), .bool s.cpu.N, .bool s.cpu.V, .bool s.cpu.D, .bool s.cpu.I, .bool s.cpu.Z, .bool s.cpu.C, .slice am s.mem.length c1, .slice ta s.trace.length c2, .slice sa s.starts.length c3, .slice pa s.cpus.length c4, .bool s.jam] 35)) (.cells #[.int .u8 (s.cpu.A : Int), .int .u8 (s.cpu.X : Int), .int .u8 (s.cpu.Y : Int), .int .u8 (s.cpu.S : Int), .int .u16 (s.cpu.PC : Int), .bool s.cpu.N, .bool s.cpu.V, .bool s.cpu.D, .bool s.cpu.I, .bool s.cpu.Z, .bool s.cpu.C, .slice am' s.mem.length c1', .slice ta' s.trace.length c2', .slice sa' s.starts.length c3', .slice pa' s.cpus.length c4', .bool s.jam] 35)
  have b2 := bstep b1 a1
  replace y0 := y0.below a1
  clear a0 a1
  have z1 : Hid (((w.alloc (.cells #[.int .u8 (s.cpu.A : Int), .int .u8 (s.cpu.X : Int), .int .u8 (s.cpu.Y : Int), .int .u8 (s.cpu.S : Int), .int .u16 (s.cpu.PC : Int), .bool s.cpu.N, .bool s.cpu.V, .bool s.cpu.D, .bool s.cpu.I, .bool s.cpu.Z, .bool s.cpu.C, .slice am s.mem.length c1, .slice ta s.trace.length c2, .slice sa s.starts.length c3, .slice pa s.cpus.length c4, .bool s.jam] 35)).alloc (.cells #[.int .u8 (s.cpu.A : Int), .int .u8 (s.cpu.X : Int), .int .u8 (s.cpu.Y : Int), .int .u8 (s.cpu.S : Int), .int .u16 (s.cpu.PC : Int), .bool s.cpu.N, .bool s.cpu.V, .bool s.cpu.D, .bool s.cpu.I, .bool s.cpu.Z, .bool s.cpu.C, .slice am' s.mem.length c1', .slice ta' s.trace.length c2', .slice sa' s.starts.length c3', .slice pa' s.cpus.length c4', .bool s.jam] 35)).heap.size = w.heap.size + 2) := Lib.hid (by simp only [World.size_alloc])
  go_enter Try.func18, Try.ntmps18
  have c41 := y0.cell 0 (.int .u8 (s.cpu.A : Int)) rfl
  have c42 := y0.cell 1 (.int .u8 (s.cpu.X : Int)) rfl
  have c43 := y0.cell 2 (.int .u8 (s.cpu.Y : Int)) rfl
  have c44 := y0.cell 3 (.int .u8 (s.cpu.S : Int)) rfl
  have c45 := y0.cell 4 (.int .u16 (s.cpu.PC : Int)) rfl
  have c46 := y0.cell 5 (.bool s.cpu.N) rfl
  have c47 := y0.cell 6 (.bool s.cpu.V) rfl
  have c48 := y0.cell 7 (.bool s.cpu.D) rfl
  have c49 := y0.cell 8 (.bool s.cpu.I) rfl
  have c50 := y0.cell 9 (.bool s.cpu.Z) rfl
  have c51 := y0.cell 10 (.bool s.cpu.C) rfl
  have c52 := y0.cell 11 (.slice am s.mem.length c1) rfl
  have c53 := y0.cell 12 (.slice ta s.trace.length c2) rfl
  have c54 := y0.cell 13 (.slice sa s.starts.length c3) rfl
  have c55 := y0.cell 14 (.slice pa s.cpus.length c4) rfl
  have c56 := y0.cell 15 (.bool s.jam) rfl
  have c57 := y1.cell 0 (.int .u8 (s.cpu.A : Int)) rfl
  have c58 := y1.cell 1 (.int .u8 (s.cpu.X : Int)) rfl
  have c59 := y1.cell 2 (.int .u8 (s.cpu.Y : Int)) rfl
  have c60 := y1.cell 3 (.int .u8 (s.cpu.S : Int)) rfl
  have c61 := y1.cell 4 (.int .u16 (s.cpu.PC : Int)) rfl
  have c62 := y1.cell 5 (.bool s.cpu.N) rfl
  have c63 := y1.cell 6 (.bool s.cpu.V) rfl
  have c64 := y1.cell 7 (.bool s.cpu.D) rfl
  have c65 := y1.cell 8 (.bool s.cpu.I) rfl
  have c66 := y1.cell 9 (.bool s.cpu.Z) rfl
  have c67 := y1.cell 10 (.bool s.cpu.C) rfl
  have c68 := y1.cell 11 (.slice am' s.mem.length c1') rfl
  have c69 := y1.cell 12 (.slice ta' s.trace.length c2') rfl
  have c70 := y1.cell 13 (.slice sa' s.starts.length c3') rfl
  have c71 := y1.cell 14 (.slice pa' s.cpus.length c4') rfl
  have c72 := y1.cell 15 (.bool s.jam) rfl
  go_wp2_with fail
  refine (eqCpu_any s.cpu _).mono ?_
  rintro e w73 ⟨rfl, d74⟩
  have b75 := bstep b2 d74
  have p76 := y0.below d74
  have p77 := y1.below d74
  have z78 := Lib.hid d74.size
  clear b2 y0 y1 c41 c42 c43 c44 c45 c46 c47 c48 c49 c50 c51 c52 c53 c54 c55 c56 c57 c58 c59 c60 c61 c62 c63 c64 c65 c66 c67 c68 c69 c70 c71 c72 d74
  have c79 := p76.cell 0 (.int .u8 (s.cpu.A : Int)) rfl
  have c80 := p76.cell 1 (.int .u8 (s.cpu.X : Int)) rfl
  have c81 := p76.cell 2 (.int .u8 (s.cpu.Y : Int)) rfl
  have c82 := p76.cell 3 (.int .u8 (s.cpu.S : Int)) rfl
  have c83 := p76.cell 4 (.int .u16 (s.cpu.PC : Int)) rfl
  have c84 := p76.cell 5 (.bool s.cpu.N) rfl
  have c85 := p76.cell 6 (.bool s.cpu.V) rfl
  have c86 := p76.cell 7 (.bool s.cpu.D) rfl
  have c87 := p76.cell 8 (.bool s.cpu.I) rfl
  have c88 := p76.cell 9 (.bool s.cpu.Z) rfl
  have c89 := p76.cell 10 (.bool s.cpu.C) rfl
  have c90 := p76.cell 11 (.slice am s.mem.length c1) rfl
  have c91 := p76.cell 12 (.slice ta s.trace.length c2) rfl
  have c92 := p76.cell 13 (.slice sa s.starts.length c3) rfl
  have c93 := p76.cell 14 (.slice pa s.cpus.length c4) rfl
  have c94 := p76.cell 15 (.bool s.jam) rfl
  have c95 := p77.cell 0 (.int .u8 (s.cpu.A : Int)) rfl
  have c96 := p77.cell 1 (.int .u8 (s.cpu.X : Int)) rfl
  have c97 := p77.cell 2 (.int .u8 (s.cpu.Y : Int)) rfl
  have c98 := p77.cell 3 (.int .u8 (s.cpu.S : Int)) rfl
  have c99 := p77.cell 4 (.int .u16 (s.cpu.PC : Int)) rfl
  have c100 := p77.cell 5 (.bool s.cpu.N) rfl
  have c101 := p77.cell 6 (.bool s.cpu.V) rfl
  have c102 := p77.cell 7 (.bool s.cpu.D) rfl
  have c103 := p77.cell 8 (.bool s.cpu.I) rfl
  have c104 := p77.cell 9 (.bool s.cpu.Z) rfl
  have c105 := p77.cell 10 (.bool s.cpu.C) rfl
  have c106 := p77.cell 11 (.slice am' s.mem.length c1') rfl
  have c107 := p77.cell 12 (.slice ta' s.trace.length c2') rfl
  have c108 := p77.cell 13 (.slice sa' s.starts.length c3') rfl
  have c109 := p77.cell 14 (.slice pa' s.cpus.length c4') rfl
  have c110 := p77.cell 15 (.bool s.jam) rfl
  go_wp2_with fail
  refine (eqRam_seg _ _ _ _ s.mem _ HS.out.1 (H1.out.below b75).mem (H2.out.below b75).mem).mono ?_
  rintro e w111 ⟨rfl, d112⟩
  have b113 := bstep b75 d112
  have p114 := p76.below d112
  have p115 := p77.below d112
  have z116 := Lib.hid d112.size
  clear b75 p76 p77 c79 c80 c81 c82 c83 c84 c85 c86 c87 c88 c89 c90 c91 c92 c93 c94 c95 c96 c97 c98 c99 c100 c101 c102 c103 c104 c105 c106 c107 c108 c109 c110 d112
  have c117 := p114.cell 0 (.int .u8 (s.cpu.A : Int)) rfl
  have c118 := p114.cell 1 (.int .u8 (s.cpu.X : Int)) rfl
  have c119 := p114.cell 2 (.int .u8 (s.cpu.Y : Int)) rfl
  have c120 := p114.cell 3 (.int .u8 (s.cpu.S : Int)) rfl
  have c121 := p114.cell 4 (.int .u16 (s.cpu.PC : Int)) rfl
  have c122 := p114.cell 5 (.bool s.cpu.N) rfl
  have c123 := p114.cell 6 (.bool s.cpu.V) rfl
  have c124 := p114.cell 7 (.bool s.cpu.D) rfl
  have c125 := p114.cell 8 (.bool s.cpu.I) rfl
  have c126 := p114.cell 9 (.bool s.cpu.Z) rfl
  have c127 := p114.cell 10 (.bool s.cpu.C) rfl
  have c128 := p114.cell 11 (.slice am s.mem.length c1) rfl
  have c129 := p114.cell 12 (.slice ta s.trace.length c2) rfl
  have c130 := p114.cell 13 (.slice sa s.starts.length c3) rfl
  have c131 := p114.cell 14 (.slice pa s.cpus.length c4) rfl
  have c132 := p114.cell 15 (.bool s.jam) rfl
  have c133 := p115.cell 0 (.int .u8 (s.cpu.A : Int)) rfl
  have c134 := p115.cell 1 (.int .u8 (s.cpu.X : Int)) rfl
  have c135 := p115.cell 2 (.int .u8 (s.cpu.Y : Int)) rfl
  have c136 := p115.cell 3 (.int .u8 (s.cpu.S : Int)) rfl
  have c137 := p115.cell 4 (.int .u16 (s.cpu.PC : Int)) rfl
  have c138 := p115.cell 5 (.bool s.cpu.N) rfl
  have c139 := p115.cell 6 (.bool s.cpu.V) rfl
  have c140 := p115.cell 7 (.bool s.cpu.D) rfl
  have c141 := p115.cell 8 (.bool s.cpu.I) rfl
  have c142 := p115.cell 9 (.bool s.cpu.Z) rfl
  have c143 := p115.cell 10 (.bool s.cpu.C) rfl
  have c144 := p115.cell 11 (.slice am' s.mem.length c1') rfl
  have c145 := p115.cell 12 (.slice ta' s.trace.length c2') rfl
  have c146 := p115.cell 13 (.slice sa' s.starts.length c3') rfl
  have c147 := p115.cell 14 (.slice pa' s.cpus.length c4') rfl
  have c148 := p115.cell 15 (.bool s.jam) rfl
  go_wp2_with fail
  refine (eqCycS_true _ _ _ _ s.trace _ HS.out.2.1 (H1.out.below b113).trace.cyc (H2.out.below b113).trace.cyc).mono ?_
  rintro e w149 ⟨rfl, d150⟩
  have b151 := bstep b113 d150
  have p152 := p114.below d150
  have p153 := p115.below d150
  have z154 := Lib.hid d150.size
  clear b113 p114 p115 c117 c118 c119 c120 c121 c122 c123 c124 c125 c126 c127 c128 c129 c130 c131 c132 c133 c134 c135 c136 c137 c138 c139 c140 c141 c142 c143 c144 c145 c146 c147 c148 d150
  have c155 := p152.cell 0 (.int .u8 (s.cpu.A : Int)) rfl
  have c156 := p152.cell 1 (.int .u8 (s.cpu.X : Int)) rfl
  have c157 := p152.cell 2 (.int .u8 (s.cpu.Y : Int)) rfl
  have c158 := p152.cell 3 (.int .u8 (s.cpu.S : Int)) rfl
  have c159 := p152.cell 4 (.int .u16 (s.cpu.PC : Int)) rfl
  have c160 := p152.cell 5 (.bool s.cpu.N) rfl
  have c161 := p152.cell 6 (.bool s.cpu.V) rfl
  have c162 := p152.cell 7 (.bool s.cpu.D) rfl
  have c163 := p152.cell 8 (.bool s.cpu.I) rfl
  have c164 := p152.cell 9 (.bool s.cpu.Z) rfl
  have c165 := p152.cell 10 (.bool s.cpu.C) rfl
  have c166 := p152.cell 11 (.slice am s.mem.length c1) rfl
  have c167 := p152.cell 12 (.slice ta s.trace.length c2) rfl
  have c168 := p152.cell 13 (.slice sa s.starts.length c3) rfl
  have c169 := p152.cell 14 (.slice pa s.cpus.length c4) rfl
  have c170 := p152.cell 15 (.bool s.jam) rfl
  have c171 := p153.cell 0 (.int .u8 (s.cpu.A : Int)) rfl
  have c172 := p153.cell 1 (.int .u8 (s.cpu.X : Int)) rfl
  have c173 := p153.cell 2 (.int .u8 (s.cpu.Y : Int)) rfl
  have c174 := p153.cell 3 (.int .u8 (s.cpu.S : Int)) rfl
  have c175 := p153.cell 4 (.int .u16 (s.cpu.PC : Int)) rfl
  have c176 := p153.cell 5 (.bool s.cpu.N) rfl
  have c177 := p153.cell 6 (.bool s.cpu.V) rfl
  have c178 := p153.cell 7 (.bool s.cpu.D) rfl
  have c179 := p153.cell 8 (.bool s.cpu.I) rfl
  have c180 := p153.cell 9 (.bool s.cpu.Z) rfl
  have c181 := p153.cell 10 (.bool s.cpu.C) rfl
  have c182 := p153.cell 11 (.slice am' s.mem.length c1') rfl
  have c183 := p153.cell 12 (.slice ta' s.trace.length c2') rfl
  have c184 := p153.cell 13 (.slice sa' s.starts.length c3') rfl
  have c185 := p153.cell 14 (.slice pa' s.cpus.length c4') rfl
  have c186 := p153.cell 15 (.bool s.jam) rfl
  go_wp2_with fail
  refine (eqIntS_any _ _ _ _ s.starts _ HS.out.2.2.1 (H1.out.below b151).starts (H2.out.below b151).starts).mono ?_
  rintro e w187 ⟨rfl, d188⟩
  have b189 := bstep b151 d188
  have p190 := p152.below d188
  have p191 := p153.below d188
  have z192 := Lib.hid d188.size
  clear b151 p152 p153 c155 c156 c157 c158 c159 c160 c161 c162 c163 c164 c165 c166 c167 c168 c169 c170 c171 c172 c173 c174 c175 c176 c177 c178 c179 c180 c181 c182 c183 c184 c185 c186 d188
  have c193 := p190.cell 0 (.int .u8 (s.cpu.A : Int)) rfl
  have c194 := p190.cell 1 (.int .u8 (s.cpu.X : Int)) rfl
  have c195 := p190.cell 2 (.int .u8 (s.cpu.Y : Int)) rfl
  have c196 := p190.cell 3 (.int .u8 (s.cpu.S : Int)) rfl
  have c197 := p190.cell 4 (.int .u16 (s.cpu.PC : Int)) rfl
  have c198 := p190.cell 5 (.bool s.cpu.N) rfl
  have c199 := p190.cell 6 (.bool s.cpu.V) rfl
  have c200 := p190.cell 7 (.bool s.cpu.D) rfl
  have c201 := p190.cell 8 (.bool s.cpu.I) rfl
  have c202 := p190.cell 9 (.bool s.cpu.Z) rfl
  have c203 := p190.cell 10 (.bool s.cpu.C) rfl
  have c204 := p190.cell 11 (.slice am s.mem.length c1) rfl
  have c205 := p190.cell 12 (.slice ta s.trace.length c2) rfl
  have c206 := p190.cell 13 (.slice sa s.starts.length c3) rfl
  have c207 := p190.cell 14 (.slice pa s.cpus.length c4) rfl
  have c208 := p190.cell 15 (.bool s.jam) rfl
  have c209 := p191.cell 0 (.int .u8 (s.cpu.A : Int)) rfl
  have c210 := p191.cell 1 (.int .u8 (s.cpu.X : Int)) rfl
  have c211 := p191.cell 2 (.int .u8 (s.cpu.Y : Int)) rfl
  have c212 := p191.cell 3 (.int .u8 (s.cpu.S : Int)) rfl
  have c213 := p191.cell 4 (.int .u16 (s.cpu.PC : Int)) rfl
  have c214 := p191.cell 5 (.bool s.cpu.N) rfl
  have c215 := p191.cell 6 (.bool s.cpu.V) rfl
  have c216 := p191.cell 7 (.bool s.cpu.D) rfl
  have c217 := p191.cell 8 (.bool s.cpu.I) rfl
  have c218 := p191.cell 9 (.bool s.cpu.Z) rfl
  have c219 := p191.cell 10 (.bool s.cpu.C) rfl
  have c220 := p191.cell 11 (.slice am' s.mem.length c1') rfl
  have c221 := p191.cell 12 (.slice ta' s.trace.length c2') rfl
  have c222 := p191.cell 13 (.slice sa' s.starts.length c3') rfl
  have c223 := p191.cell 14 (.slice pa' s.cpus.length c4') rfl
  have c224 := p191.cell 15 (.bool s.jam) rfl
  go_wp2_with fail
  refine (eqCpuS_any _ _ _ _ s.cpus _ HS.out.2.2.2 (H1.out.below b189).cpus (H2.out.below b189).cpus).mono ?_
  rintro e w225 ⟨rfl, d226⟩
  have b227 := bstep b189 d226
  have p228 := p190.below d226
  have p229 := p191.below d226
  have z230 := Lib.hid d226.size
  clear b189 p190 p191 c193 c194 c195 c196 c197 c198 c199 c200 c201 c202 c203 c204 c205 c206 c207 c208 c209 c210 c211 c212 c213 c214 c215 c216 c217 c218 c219 c220 c221 c222 c223 c224 d226
  have c231 := p228.cell 0 (.int .u8 (s.cpu.A : Int)) rfl
  have c232 := p228.cell 1 (.int .u8 (s.cpu.X : Int)) rfl
  have c233 := p228.cell 2 (.int .u8 (s.cpu.Y : Int)) rfl
  have c234 := p228.cell 3 (.int .u8 (s.cpu.S : Int)) rfl
  have c235 := p228.cell 4 (.int .u16 (s.cpu.PC : Int)) rfl
  have c236 := p228.cell 5 (.bool s.cpu.N) rfl
  have c237 := p228.cell 6 (.bool s.cpu.V) rfl
  have c238 := p228.cell 7 (.bool s.cpu.D) rfl
  have c239 := p228.cell 8 (.bool s.cpu.I) rfl
  have c240 := p228.cell 9 (.bool s.cpu.Z) rfl
  have c241 := p228.cell 10 (.bool s.cpu.C) rfl
  have c242 := p228.cell 11 (.slice am s.mem.length c1) rfl
  have c243 := p228.cell 12 (.slice ta s.trace.length c2) rfl
  have c244 := p228.cell 13 (.slice sa s.starts.length c3) rfl
  have c245 := p228.cell 14 (.slice pa s.cpus.length c4) rfl
  have c246 := p228.cell 15 (.bool s.jam) rfl
  have c247 := p229.cell 0 (.int .u8 (s.cpu.A : Int)) rfl
  have c248 := p229.cell 1 (.int .u8 (s.cpu.X : Int)) rfl
  have c249 := p229.cell 2 (.int .u8 (s.cpu.Y : Int)) rfl
  have c250 := p229.cell 3 (.int .u8 (s.cpu.S : Int)) rfl
  have c251 := p229.cell 4 (.int .u16 (s.cpu.PC : Int)) rfl
  have c252 := p229.cell 5 (.bool s.cpu.N) rfl
  have c253 := p229.cell 6 (.bool s.cpu.V) rfl
  have c254 := p229.cell 7 (.bool s.cpu.D) rfl
  have c255 := p229.cell 8 (.bool s.cpu.I) rfl
  have c256 := p229.cell 9 (.bool s.cpu.Z) rfl
  have c257 := p229.cell 10 (.bool s.cpu.C) rfl
  have c258 := p229.cell 11 (.slice am' s.mem.length c1') rfl
  have c259 := p229.cell 12 (.slice ta' s.trace.length c2') rfl
  have c260 := p229.cell 13 (.slice sa' s.starts.length c3') rfl
  have c261 := p229.cell 14 (.slice pa' s.cpus.length c4') rfl
  have c262 := p229.cell 15 (.bool s.jam) rfl
  go_wp2
  go_ret
  exact ⟨rfl, b227⟩

set_option maxHeartbeats 4000000 in
theorem toShot_own (s : ShotI) (am ta sa pa : Option Addr) (cm ct cs cp : Nat) (w : World) (hs : s.small) (hr : ShotRows w am ta sa pa s) :
    Calls Try.prog 17 #[shotV s.cpu (.slice am s.mem.length cm) (.slice ta s.trace.length ct) (.slice sa s.starts.length cs) (.slice pa s.cpus.length cp) s.jam] w fun e w' => ∃ m t st p, e = .returned (shotV s.cpu m t st p s.jam) ∧ ShotOwn w' w.heap.size w'.heap.size m t st p s ∧ Below w.heap.size w w' := by
  have HS := Lib.hid hs
  have HR := Lib.hid hr
  clear hs hr
  have b1 := Below.refl w.heap.size w
  have y1 : BoxN (w.alloc (.cells #[.int .u8 (s.cpu.A : Int), .int .u8 (s.cpu.X : Int), .int .u8 (s.cpu.Y : Int), .int .u8 (s.cpu.S : Int), .int .u16 (s.cpu.PC : Int), .bool s.cpu.N, .bool s.cpu.V, .bool s.cpu.D, .bool s.cpu.I, .bool s.cpu.Z, .bool s.cpu.C, .slice am s.mem.length cm, .slice ta s.trace.length ct, .slice sa s.starts.length cs, .slice pa s.cpus.length cp, .bool s.jam] 52)) w.heap.size 52 #[.int .u8 (s.cpu.A : Int), .int .u8 (s.cpu.X : Int), .int .u8 (s.cpu.Y : Int), .int .u8 (s.cpu.S : Int), .int .u16 (s.cpu.PC : Int), .bool s.cpu.N, .bool s.cpu.V, .bool s.cpu.D, .bool s.cpu.I, .bool s.cpu.Z, .bool s.cpu.C, .slice am s.mem.length cm, .slice ta s.trace.length ct, .slice sa s.starts.length cs, .slice pa s.cpus.length cp, .bool s.jam] := by
    have h := BoxN.new w 52 #[.int .u8 (s.cpu.A : Int), .int .u8 (s.cpu.X : Int), .int .u8 (s.cpu.Y : Int), .int .u8 (s.cpu.S : Int), .int .u16 (s.cpu.PC : Int), .bool s.cpu.N, .bool s.cpu.V, .bool s.cpu.D, .bool s.cpu.I, .bool s.cpu.Z, .bool s.cpu.C, .slice am s.mem.length cm, .slice ta s.trace.length ct, .slice sa s.starts.length cs, .slice pa s.cpus.length cp, .bool s.jam]
    simpa only [World.size_alloc] using h
  have a2 := alw w (.cells #[.int .u8 (s.cpu.A : Int), .int .u8 (s.cpu.X : Int), .int .u8 (s.cpu.Y : Int), .int .u8 (s.cpu.S : Int), .int .u16 (s.cpu.PC : Int), .bool s.cpu.N, .bool s.cpu.V, .bool s.cpu.D, .bool s.cpu.I, .bool s.cpu.Z, .bool s.cpu.C, .slice am s.mem.length cm, .slice ta s.trace.length ct, .slice sa s.starts.length cs, .slice pa s.cpus.length cp, .bool s.jam] 52)
  have b3 := bstep b1 a2
  have y4 : BoxN ((w.alloc (.cells #[.int .u8 (s.cpu.A : Int), .int .u8 (s.cpu.X : Int), .int .u8 (s.cpu.Y : Int), .int .u8 (s.cpu.S : Int), .int .u16 (s.cpu.PC : Int), .bool s.cpu.N, .bool s.cpu.V, .bool s.cpu.D, .bool s.cpu.I, .bool s.cpu.Z, .bool s.cpu.C, .slice am s.mem.length cm, .slice ta s.trace.length ct, .slice sa s.starts.length cs, .slice pa s.cpus.length cp, .bool s.jam] 52)).alloc (.cells #[.int .u8 0, .int .u8 0, .int .u8 0, .int .u8 0, .int .u16 0, .bool false, .bool false, .bool false, .bool false, .bool false, .bool false, .slice none 0 0, .slice none 0 0, .slice none 0 0, .slice none 0 0, .bool false] 35)) (w.heap.size + 1) 35 #[.int .u8 0, .int .u8 0, .int .u8 0, .int .u8 0, .int .u16 0, .bool false, .bool false, .bool false, .bool false, .bool false, .bool false, .slice none 0 0, .slice none 0 0, .slice none 0 0, .slice none 0 0, .bool false] := by
    have h := BoxN.new (w.alloc (.cells #[.int .u8 (s.cpu.A : Int), .int .u8 (s.cpu.X : Int), .int .u8 (s.cpu.Y : Int), .int .u8 (s.cpu.S : Int), .int .u16 (s.cpu.PC : Int), .bool s.cpu.N, .bool s.cpu.V, .bool s.cpu.D, .bool s.cpu.I, .bool s.cpu.Z, .bool s.cpu.C, .slice am s.mem.length cm, .slice ta s.trace.length ct, .slice sa s.starts.length cs, .slice pa s.cpus.length cp, .bool s.jam] 52)) 35 #[.int .u8 0, .int .u8 0, .int .u8 0, .int .u8 0, .int .u16 0, .bool false, .bool false, .bool false, .bool false, .bool false, .bool false, .slice none 0 0, .slice none 0 0, .slice none 0 0, .slice none 0 0, .bool false]
    simpa only [World.size_alloc] using h
  have a5 := alw (w.alloc (.cells #[.int .u8 (s.cpu.A : Int), .int .u8 (s.cpu.X : Int), .int .u8 (s.cpu.Y : Int), .int .u8 (s.cpu.S : Int), .int .u16 (s.cpu.PC : Int), .bool s.cpu.N, .bool s.cpu.V, .bool s.cpu.D, .bool s.cpu.I, .bool s.cpu.Z, .bool s.cpu.C, .slice am s.mem.length cm, .slice ta s.trace.length ct, .slice sa s.starts.length cs, .slice pa s.cpus.length cp, .bool s.jam] 52)) (.cells #[.int .u8 0, .int .u8 0, .int .u8 0, .int .u8 0, .int .u16 0, .bool false, .bool false, .bool false, .bool false, .bool false, .bool false, .slice none 0 0, .slice none 0 0, .slice none 0 0, .slice none 0 0, .bool false] 35)
  have b6 := bstep b3 a5
  replace y1 := y1.below a5
  have y7 : BoxN (((w.alloc (.cells #[.int .u8 (s.cpu.A : Int), .int .u8 (s.cpu.X : Int), .int .u8 (s.cpu.Y : Int), .int .u8 (s.cpu.S : Int), .int .u16 (s.cpu.PC : Int), .bool s.cpu.N, .bool s.cpu.V, .bool s.cpu.D, .bool s.cpu.I, .bool s.cpu.Z, .bool s.cpu.C, .slice am s.mem.length cm, .slice ta s.trace.length ct, .slice sa s.starts.length cs, .slice pa s.cpus.length cp, .bool s.jam] 52)).alloc (.cells #[.int .u8 0, .int .u8 0, .int .u8 0, .int .u8 0, .int .u16 0, .bool false, .bool false, .bool false, .bool false, .bool false, .bool false, .slice none 0 0, .slice none 0 0, .slice none 0 0, .slice none 0 0, .bool false] 35)).alloc (.cells #[.int .u8 0, .int .u8 0, .int .u8 0, .int .u8 0, .int .u16 0, .bool false, .bool false, .bool false, .bool false, .bool false, .bool false, .slice none 0 0, .slice none 0 0, .slice none 0 0, .slice none 0 0, .bool false] 35)) (w.heap.size + 1 + 1) 35 #[.int .u8 0, .int .u8 0, .int .u8 0, .int .u8 0, .int .u16 0, .bool false, .bool false, .bool false, .bool false, .bool false, .bool false, .slice none 0 0, .slice none 0 0, .slice none 0 0, .slice none 0 0, .bool false] := by
    have h := BoxN.new ((w.alloc (.cells #[.int .u8 (s.cpu.A : Int), .int .u8 (s.cpu.X : Int), .int .u8 (s.cpu.Y : Int), .int .u8 (s.cpu.S : Int), .int .u16 (s.cpu.PC : Int), .bool s.cpu.N, .bool s.cpu.V, .bool s.cpu.D, .bool s.cpu.I, .bool s.cpu.Z, .bool s.cpu.C, .slice am s.mem.length cm, .slice ta s.trace.length ct, .slice sa s.starts.length cs, .slice pa s.cpus.length cp, .bool s.jam] 52)).alloc (.cells #[.int .u8 0, .int .u8 0, .int .u8 0, .int .u8 0, .int .u16 0, .bool false, .bool false, .bool false, .bool false, .bool false, .bool false, .slice none 0 0, .slice none 0 0, .slice none 0 0, .slice none 0 0, .bool false] 35)) 35 #[.int .u8 0, .int .u8 0, .int .u8 0, .int .u8 0, .int .u16 0, .bool false, .bool false, .bool false, .bool false, .bool false, .bool false, .slice none 0 0, .slice none 0 0, .slice none 0 0, .slice none 0 0, .bool false]
    simpa only [World.size_alloc] using h
  have a8 := alw ((w.alloc (.cells #[.int .u8 (s.cpu.A : Int), .int .u8 (s.cpu.X : Int), .int .u8 (s.cpu.Y : Int), .int .u8 (s.cpu.S : Int), .int .u16 (s.cpu.PC : Int), .bool s.cpu.N, .bool s.cpu.V, .bool s.cpu.D, .bool s.cpu.I, .bool s.cpu.Z, .bool s.cpu.C, .slice am s.mem.length cm, .slice ta s.trace.length ct, .slice sa s.starts.length cs, .slice pa s.cpus.length cp, .bool s.jam] 52)).alloc (.cells #[.int .u8 0, .int .u8 0, .int .u8 0, .int .u8 0, .int .u16 0, .bool false, .bool false, .bool false, .bool false, .bool false, .bool false, .slice none 0 0, .slice none 0 0, .slice none 0 0, .slice none 0 0, .bool false] 35)) (.cells #[.int .u8 0, .int .u8 0, .int .u8 0, .int .u8 0, .int .u16 0, .bool false, .bool false, .bool false, .bool false, .bool false, .bool false, .slice none 0 0, .slice none 0 0, .slice none 0 0, .slice none 0 0, .bool false] 35)
  have b9 := bstep b6 a8
  replace y1 := y1.below a8
  replace y4 := y4.below a8
  clear a2 a5 a8
  have z10 : Hid ((((w.alloc (.cells #[.int .u8 (s.cpu.A : Int), .int .u8 (s.cpu.X : Int), .int .u8 (s.cpu.Y : Int), .int .u8 (s.cpu.S : Int), .int .u16 (s.cpu.PC : Int), .bool s.cpu.N, .bool s.cpu.V, .bool s.cpu.D, .bool s.cpu.I, .bool s.cpu.Z, .bool s.cpu.C, .slice am s.mem.length cm, .slice ta s.trace.length ct, .slice sa s.starts.length cs, .slice pa s.cpus.length cp, .bool s.jam] 52)).alloc (.cells #[.int .u8 0, .int .u8 0, .int .u8 0, .int .u8 0, .int .u16 0, .bool false, .bool false, .bool false, .bool false, .bool false, .bool false, .slice none 0 0, .slice none 0 0, .slice none 0 0, .slice none 0 0, .bool false] 35)).alloc (.cells #[.int .u8 0, .int .u8 0, .int .u8 0, .int .u8 0, .int .u16 0, .bool false, .bool false, .bool false, .bool false, .bool false, .bool false, .slice none 0 0, .slice none 0 0, .slice none 0 0, .slice none 0 0, .bool false] 35)).heap.size = w.heap.size + 3) := Lib.hid (by simp only [World.size_alloc])
  go_enter Try.func17, Try.ntmps17
  have ld11 : (Instr.loadAt 48 (.pointer (some ⟨w.heap.size, 0, none⟩))).run Try.prog (((w.alloc (.cells #[.int .u8 (s.cpu.A : Int), .int .u8 (s.cpu.X : Int), .int .u8 (s.cpu.Y : Int), .int .u8 (s.cpu.S : Int), .int .u16 (s.cpu.PC : Int), .bool s.cpu.N, .bool s.cpu.V, .bool s.cpu.D, .bool s.cpu.I, .bool s.cpu.Z, .bool s.cpu.C, .slice am s.mem.length cm, .slice ta s.trace.length ct, .slice sa s.starts.length cs, .slice pa s.cpus.length cp, .bool s.jam] 52)).alloc (.cells #[.int .u8 0, .int .u8 0, .int .u8 0, .int .u8 0, .int .u16 0, .bool false, .bool false, .bool false, .bool false, .bool false, .bool false, .slice none 0 0, .slice none 0 0, .slice none 0 0, .slice none 0 0, .bool false] 35)).alloc (.cells #[.int .u8 0, .int .u8 0, .int .u8 0, .int .u8 0, .int .u16 0, .bool false, .bool false, .bool false, .bool false, .bool false, .bool false, .slice none 0 0, .slice none 0 0, .slice none 0 0, .slice none 0 0, .bool false] 35)) = .ok (.agg #[.int .u8 (s.cpu.A : Int), .int .u8 (s.cpu.X : Int), .int .u8 (s.cpu.Y : Int), .int .u8 (s.cpu.S : Int), .int .u16 (s.cpu.PC : Int), .bool s.cpu.N, .bool s.cpu.V, .bool s.cpu.D, .bool s.cpu.I, .bool s.cpu.Z, .bool s.cpu.C]) (((w.alloc (.cells #[.int .u8 (s.cpu.A : Int), .int .u8 (s.cpu.X : Int), .int .u8 (s.cpu.Y : Int), .int .u8 (s.cpu.S : Int), .int .u16 (s.cpu.PC : Int), .bool s.cpu.N, .bool s.cpu.V, .bool s.cpu.D, .bool s.cpu.I, .bool s.cpu.Z, .bool s.cpu.C, .slice am s.mem.length cm, .slice ta s.trace.length ct, .slice sa s.starts.length cs, .slice pa s.cpus.length cp, .bool s.jam] 52)).alloc (.cells #[.int .u8 0, .int .u8 0, .int .u8 0, .int .u8 0, .int .u16 0, .bool false, .bool false, .bool false, .bool false, .bool false, .bool false, .slice none 0 0, .slice none 0 0, .slice none 0 0, .slice none 0 0, .bool false] 35)).alloc (.cells #[.int .u8 0, .int .u8 0, .int .u8 0, .int .u8 0, .int .u16 0, .bool false, .bool false, .bool false, .bool false, .bool false, .bool false, .slice none 0 0, .slice none 0 0, .slice none 0 0, .slice none 0 0, .bool false] 35)) := load_part y1 0 #[.int .u8 (s.cpu.A : Int), .int .u8 (s.cpu.X : Int), .int .u8 (s.cpu.Y : Int), .int .u8 (s.cpu.S : Int), .int .u16 (s.cpu.PC : Int), .bool s.cpu.N, .bool s.cpu.V, .bool s.cpu.D, .bool s.cpu.I, .bool s.cpu.Z, .bool s.cpu.C] (by kernel_rfl) (by kernel_rfl) (by kernel_rfl)
  go_wp2_with ((refine wpList_load_run ld11 rfl rfl rfl ?_))
  clear b1 b3 b6 ld11
  refine (toCpu_any s.cpu _).mono ?_
  rintro e w12 ⟨rfl, d13⟩
  replace d13 : Below (((w.alloc (.cells #[.int .u8 (s.cpu.A : Int), .int .u8 (s.cpu.X : Int), .int .u8 (s.cpu.Y : Int), .int .u8 (s.cpu.S : Int), .int .u16 (s.cpu.PC : Int), .bool s.cpu.N, .bool s.cpu.V, .bool s.cpu.D, .bool s.cpu.I, .bool s.cpu.Z, .bool s.cpu.C, .slice am s.mem.length cm, .slice ta s.trace.length ct, .slice sa s.starts.length cs, .slice pa s.cpus.length cp, .bool s.jam] 52)).alloc (.cells #[.int .u8 0, .int .u8 0, .int .u8 0, .int .u8 0, .int .u16 0, .bool false, .bool false, .bool false, .bool false, .bool false, .bool false, .slice none 0 0, .slice none 0 0, .slice none 0 0, .slice none 0 0, .bool false] 35)).alloc (.cells #[.int .u8 0, .int .u8 0, .int .u8 0, .int .u8 0, .int .u16 0, .bool false, .bool false, .bool false, .bool false, .bool false, .bool false, .slice none 0 0, .slice none 0 0, .slice none 0 0, .slice none 0 0, .bool false] 35)).heap.size (((w.alloc (.cells #[.int .u8 (s.cpu.A : Int), .int .u8 (s.cpu.X : Int), .int .u8 (s.cpu.Y : Int), .int .u8 (s.cpu.S : Int), .int .u16 (s.cpu.PC : Int), .bool s.cpu.N, .bool s.cpu.V, .bool s.cpu.D, .bool s.cpu.I, .bool s.cpu.Z, .bool s.cpu.C, .slice am s.mem.length cm, .slice ta s.trace.length ct, .slice sa s.starts.length cs, .slice pa s.cpus.length cp, .bool s.jam] 52)).alloc (.cells #[.int .u8 0, .int .u8 0, .int .u8 0, .int .u8 0, .int .u16 0, .bool false, .bool false, .bool false, .bool false, .bool false, .bool false, .slice none 0 0, .slice none 0 0, .slice none 0 0, .slice none 0 0, .bool false] 35)).alloc (.cells #[.int .u8 0, .int .u8 0, .int .u8 0, .int .u8 0, .int .u16 0, .bool false, .bool false, .bool false, .bool false, .bool false, .bool false, .slice none 0 0, .slice none 0 0, .slice none 0 0, .slice none 0 0, .bool false] 35)) w12 := d13
  have b14 := bstep b9 d13
  have p15 := y1.below d13
  have p16 := y4.below d13
  have p17 := y7.below d13
  have z18 := Lib.hid d13.size
  clear b9 y1 y4 y7 d13
  obtain ⟨w19, hs20, q21, sp22, z23⟩ := store_part (ty := 28) (cs' := #[.int .u8 (s.cpu.A : Int), .int .u8 (s.cpu.X : Int), .int .u8 (s.cpu.Y : Int), .int .u8 (s.cpu.S : Int), .int .u16 (s.cpu.PC : Int), .bool s.cpu.N, .bool s.cpu.V, .bool s.cpu.D, .bool s.cpu.I, .bool s.cpu.Z, .bool s.cpu.C, .slice none 0 0, .slice none 0 0, .slice none 0 0, .slice none 0 0, .bool false]) p17 0 #[.int .u8 (s.cpu.A : Int), .int .u8 (s.cpu.X : Int), .int .u8 (s.cpu.Y : Int), .int .u8 (s.cpu.S : Int), .int .u16 (s.cpu.PC : Int), .bool s.cpu.N, .bool s.cpu.V, .bool s.cpu.D, .bool s.cpu.I, .bool s.cpu.Z, .bool s.cpu.C] (by kernel_rfl) (Nat.le_of_ble_eq_true (by kernel_rfl)) (by kernel_rfl) (by kernel_rfl)
  replace z23 := Lib.hid z23
  have b24 := b14.trans (sp22.below (by have := z10.out; have := z18.out; have := z23.out; omega) b14.size)
  have p25 := p15.span sp22 (by have := z10.out; have := z18.out; have := z23.out; omega)
  have p26 := p16.span sp22 (by have := z10.out; have := z18.out; have := z23.out; omega)
  have z27 := Lib.hid sp22.size
  clear b14 p15 p16 sp22
  have ld31 : (Instr.loadAt 39 (.pointer (some ⟨w.heap.size, 11, none⟩))).run Try.prog w19 = .ok (.agg #[.slice am s.mem.length cm]) w19 := load_part p25 11 #[.slice am s.mem.length cm] (by kernel_rfl) (by kernel_rfl) (by kernel_rfl)
  go_wp2_with (first | (refine wpList_store_run hs20 rfl rfl rfl rfl rfl ?_) | (refine wpList_load_run ld31 rfl rfl rfl ?_))
  clear hs20 p17 ld31
  refine (toRam_seg am cm s.mem _ HS.out.1 (HR.out.below b24).mem).mono ?_
  rintro e w32 ⟨g29, rfl, s28, d33⟩
  have b34 := bstep b24 d33
  have p35 := p25.below d33
  have p36 := p26.below d33
  have p37 := q21.below d33
  have z38 := Lib.hid d33.size
  clear b24 p25 p26 q21 d33
  obtain ⟨w39, hs40, q41, sp42, z43⟩ := store_part (ty := 30) (cs' := #[.int .u8 (s.cpu.A : Int), .int .u8 (s.cpu.X : Int), .int .u8 (s.cpu.Y : Int), .int .u8 (s.cpu.S : Int), .int .u16 (s.cpu.PC : Int), .bool s.cpu.N, .bool s.cpu.V, .bool s.cpu.D, .bool s.cpu.I, .bool s.cpu.Z, .bool s.cpu.C, .slice (some ⟨g29, 0, none⟩) s.mem.length s.mem.length, .slice none 0 0, .slice none 0 0, .slice none 0 0, .bool false]) p37 11 #[.slice (some ⟨g29, 0, none⟩) s.mem.length s.mem.length] (by kernel_rfl) (Nat.le_of_ble_eq_true (by kernel_rfl)) (by kernel_rfl) (by kernel_rfl)
  replace z43 := Lib.hid z43
  have b44 := b34.trans (sp42.below (by have := z10.out; have := z18.out; have := z23.out; have := z27.out; have := z38.out; have := z43.out; omega) b34.size)
  have p45 := p35.span sp42 (by have := z10.out; have := z18.out; have := z23.out; have := z27.out; have := z38.out; have := z43.out; omega)
  have p46 := p36.span sp42 (by have := z10.out; have := z18.out; have := z23.out; have := z27.out; have := z38.out; have := z43.out; omega)
  have s47 := s28.span sp42 (by have := z10.out; have := z18.out; have := z23.out; have := z27.out; have := z38.out; have := z43.out; omega)
  have z48 := Lib.hid sp42.size
  clear b34 p35 p36 s28 sp42
  have ld52 : (Instr.loadAt 49 (.pointer (some ⟨w.heap.size, 12, none⟩))).run Try.prog w39 = .ok (.slice ta s.trace.length ct) w39 := by
    have hc := p45.cell 12 (.slice ta s.trace.length ct) rfl
    simp [go_sem, hc]
  go_wp2_with (first | (refine wpList_store_run hs40 rfl rfl rfl rfl rfl ?_) | (refine wpList_load_run ld52 rfl rfl rfl ?_))
  clear hs40 p37 ld52
  refine (toCycS_any ta ct s.trace _ HS.out.2.1 (HR.out.below b44).trace).mono ?_
  rintro e w53 ⟨rfl, o51, d54⟩
  have s49 := SegG.of o51
  clear o51
  have b55 := bstep b44 d54
  have p56 := p45.below d54
  have p57 := p46.below d54
  have p58 := q41.below d54
  have s59 := s47.below d54
  have z60 := Lib.hid d54.size
  clear b44 p45 p46 q41 s47 d54
  obtain ⟨w61, hs62, q63, sp64, z65⟩ := store_one (ty := 31) (cs' := #[.int .u8 (s.cpu.A : Int), .int .u8 (s.cpu.X : Int), .int .u8 (s.cpu.Y : Int), .int .u8 (s.cpu.S : Int), .int .u16 (s.cpu.PC : Int), .bool s.cpu.N, .bool s.cpu.V, .bool s.cpu.D, .bool s.cpu.I, .bool s.cpu.Z, .bool s.cpu.C, .slice (some ⟨g29, 0, none⟩) s.mem.length s.mem.length, .slice (some ⟨w39.heap.size, 0, none⟩) s.trace.length s.trace.length, .slice none 0 0, .slice none 0 0, .bool false]) p58 12 (.slice (some ⟨w39.heap.size, 0, none⟩) s.trace.length s.trace.length) (by kernel_rfl) (by
    have hc := p58.cell 12 (.slice none 0 0) rfl
    have hf := p58.frozen 12
    simp [go_sem, hc, hf])
  replace z65 := Lib.hid z65
  have b66 := b55.trans (sp64.below (by have := z10.out; have := z18.out; have := z23.out; have := z27.out; have := z38.out; have := z43.out; have := z48.out; have := z60.out; have := z65.out; omega) b55.size)
  have p67 := p56.span sp64 (by have := z10.out; have := z18.out; have := z23.out; have := z27.out; have := z38.out; have := z43.out; have := z48.out; have := z60.out; have := z65.out; omega)
  have p68 := p57.span sp64 (by have := z10.out; have := z18.out; have := z23.out; have := z27.out; have := z38.out; have := z43.out; have := z48.out; have := z60.out; have := z65.out; omega)
  have s69 := s59.span sp64 (by have := z10.out; have := z18.out; have := z23.out; have := z27.out; have := z38.out; have := z43.out; have := z48.out; have := z60.out; have := z65.out; omega)
  have s70 := s49.span sp64 (by have := z10.out; have := z18.out; have := z23.out; have := z27.out; have := z38.out; have := z43.out; have := z48.out; have := z60.out; have := z65.out; omega)
  have z71 := Lib.hid sp64.size
  clear b55 p56 p57 s59 s49 sp64
  have ld75 : (Instr.loadAt 32 (.pointer (some ⟨w.heap.size, 13, none⟩))).run Try.prog w61 = .ok (.slice sa s.starts.length cs) w61 := by
    have hc := p67.cell 13 (.slice sa s.starts.length cs) rfl
    simp [go_sem, hc]
  go_wp2_with (first | (refine wpList_store_run hs62 rfl rfl rfl rfl rfl ?_) | (refine wpList_load_run ld75 rfl rfl rfl ?_))
  clear hs62 p58 ld75
  refine (toIntS_any sa cs s.starts _ HS.out.2.2.1 (HR.out.below b66).starts).mono ?_
  rintro e w76 ⟨rfl, o74, d77⟩
  have s72 := SegG.of o74
  clear o74
  have b78 := bstep b66 d77
  have p79 := p67.below d77
  have p80 := p68.below d77
  have p81 := q63.below d77
  have s82 := s69.below d77
  have s83 := s70.below d77
  have z84 := Lib.hid d77.size
  clear b66 p67 p68 q63 s69 s70 d77
  obtain ⟨w85, hs86, q87, sp88, z89⟩ := store_one (ty := 32) (cs' := #[.int .u8 (s.cpu.A : Int), .int .u8 (s.cpu.X : Int), .int .u8 (s.cpu.Y : Int), .int .u8 (s.cpu.S : Int), .int .u16 (s.cpu.PC : Int), .bool s.cpu.N, .bool s.cpu.V, .bool s.cpu.D, .bool s.cpu.I, .bool s.cpu.Z, .bool s.cpu.C, .slice (some ⟨g29, 0, none⟩) s.mem.length s.mem.length, .slice (some ⟨w39.heap.size, 0, none⟩) s.trace.length s.trace.length, .slice (some ⟨w61.heap.size, 0, none⟩) s.starts.length s.starts.length, .slice none 0 0, .bool false]) p81 13 (.slice (some ⟨w61.heap.size, 0, none⟩) s.starts.length s.starts.length) (by kernel_rfl) (by
    have hc := p81.cell 13 (.slice none 0 0) rfl
    have hf := p81.frozen 13
    simp [go_sem, hc, hf])
  replace z89 := Lib.hid z89
  have b90 := b78.trans (sp88.below (by have := z10.out; have := z18.out; have := z23.out; have := z27.out; have := z38.out; have := z43.out; have := z48.out; have := z60.out; have := z65.out; have := z71.out; have := z84.out; have := z89.out; omega) b78.size)
  have p91 := p79.span sp88 (by have := z10.out; have := z18.out; have := z23.out; have := z27.out; have := z38.out; have := z43.out; have := z48.out; have := z60.out; have := z65.out; have := z71.out; have := z84.out; have := z89.out; omega)
  have p92 := p80.span sp88 (by have := z10.out; have := z18.out; have := z23.out; have := z27.out; have := z38.out; have := z43.out; have := z48.out; have := z60.out; have := z65.out; have := z71.out; have := z84.out; have := z89.out; omega)
  have s93 := s82.span sp88 (by have := z10.out; have := z18.out; have := z23.out; have := z27.out; have := z38.out; have := z43.out; have := z48.out; have := z60.out; have := z65.out; have := z71.out; have := z84.out; have := z89.out; omega)
  have s94 := s83.span sp88 (by have := z10.out; have := z18.out; have := z23.out; have := z27.out; have := z38.out; have := z43.out; have := z48.out; have := z60.out; have := z65.out; have := z71.out; have := z84.out; have := z89.out; omega)
  have s95 := s72.span sp88 (by have := z10.out; have := z18.out; have := z23.out; have := z27.out; have := z38.out; have := z43.out; have := z48.out; have := z60.out; have := z65.out; have := z71.out; have := z84.out; have := z89.out; omega)
  have z96 := Lib.hid sp88.size
  clear b78 p79 p80 s82 s83 s72 sp88
  have ld100 : (Instr.loadAt 50 (.pointer (some ⟨w.heap.size, 14, none⟩))).run Try.prog w85 = .ok (.slice pa s.cpus.length cp) w85 := by
    have hc := p91.cell 14 (.slice pa s.cpus.length cp) rfl
    simp [go_sem, hc]
  go_wp2_with (first | (refine wpList_store_run hs86 rfl rfl rfl rfl rfl ?_) | (refine wpList_load_run ld100 rfl rfl rfl ?_))
  clear hs86 p81 ld100
  refine (toCpuS_any pa cp s.cpus _ HS.out.2.2.2 (HR.out.below b90).cpus).mono ?_
  rintro e w101 ⟨rfl, o99, d102⟩
  have s97 := SegG.of o99
  clear o99
  have b103 := bstep b90 d102
  have p104 := p91.below d102
  have p105 := p92.below d102
  have p106 := q87.below d102
  have s107 := s93.below d102
  have s108 := s94.below d102
  have s109 := s95.below d102
  have z110 := Lib.hid d102.size
  clear b90 p91 p92 q87 s93 s94 s95 d102
  obtain ⟨w111, hs112, q113, sp114, z115⟩ := store_one (ty := 33) (cs' := #[.int .u8 (s.cpu.A : Int), .int .u8 (s.cpu.X : Int), .int .u8 (s.cpu.Y : Int), .int .u8 (s.cpu.S : Int), .int .u16 (s.cpu.PC : Int), .bool s.cpu.N, .bool s.cpu.V, .bool s.cpu.D, .bool s.cpu.I, .bool s.cpu.Z, .bool s.cpu.C, .slice (some ⟨g29, 0, none⟩) s.mem.length s.mem.length, .slice (some ⟨w39.heap.size, 0, none⟩) s.trace.length s.trace.length, .slice (some ⟨w61.heap.size, 0, none⟩) s.starts.length s.starts.length, .slice (some ⟨w85.heap.size, 0, none⟩) s.cpus.length s.cpus.length, .bool false]) p106 14 (.slice (some ⟨w85.heap.size, 0, none⟩) s.cpus.length s.cpus.length) (by kernel_rfl) (by
    have hc := p106.cell 14 (.slice none 0 0) rfl
    have hf := p106.frozen 14
    simp [go_sem, hc, hf])
  replace z115 := Lib.hid z115
  have b116 := b103.trans (sp114.below (by have := z10.out; have := z18.out; have := z23.out; have := z27.out; have := z38.out; have := z43.out; have := z48.out; have := z60.out; have := z65.out; have := z71.out; have := z84.out; have := z89.out; have := z96.out; have := z110.out; have := z115.out; omega) b103.size)
  have p117 := p104.span sp114 (by have := z10.out; have := z18.out; have := z23.out; have := z27.out; have := z38.out; have := z43.out; have := z48.out; have := z60.out; have := z65.out; have := z71.out; have := z84.out; have := z89.out; have := z96.out; have := z110.out; have := z115.out; omega)
  have p118 := p105.span sp114 (by have := z10.out; have := z18.out; have := z23.out; have := z27.out; have := z38.out; have := z43.out; have := z48.out; have := z60.out; have := z65.out; have := z71.out; have := z84.out; have := z89.out; have := z96.out; have := z110.out; have := z115.out; omega)
  have s119 := s107.span sp114 (by have := z10.out; have := z18.out; have := z23.out; have := z27.out; have := z38.out; have := z43.out; have := z48.out; have := z60.out; have := z65.out; have := z71.out; have := z84.out; have := z89.out; have := z96.out; have := z110.out; have := z115.out; omega)
  have s120 := s108.span sp114 (by have := z10.out; have := z18.out; have := z23.out; have := z27.out; have := z38.out; have := z43.out; have := z48.out; have := z60.out; have := z65.out; have := z71.out; have := z84.out; have := z89.out; have := z96.out; have := z110.out; have := z115.out; omega)
  have s121 := s109.span sp114 (by have := z10.out; have := z18.out; have := z23.out; have := z27.out; have := z38.out; have := z43.out; have := z48.out; have := z60.out; have := z65.out; have := z71.out; have := z84.out; have := z89.out; have := z96.out; have := z110.out; have := z115.out; omega)
  have s122 := s97.span sp114 (by have := z10.out; have := z18.out; have := z23.out; have := z27.out; have := z38.out; have := z43.out; have := z48.out; have := z60.out; have := z65.out; have := z71.out; have := z84.out; have := z89.out; have := z96.out; have := z110.out; have := z115.out; omega)
  have z123 := Lib.hid sp114.size
  clear b103 p104 p105 s107 s108 s109 s97 sp114
  have ld124 : (Instr.loadAt 4 (.pointer (some ⟨w.heap.size, 15, none⟩))).run Try.prog w111 = .ok (.bool s.jam) w111 := by
    have hc := p117.cell 15 (.bool s.jam) rfl
    simp [go_sem, hc]
  obtain ⟨w125, hs126, q127, sp128, z129⟩ := store_one (ty := 4) (cs' := #[.int .u8 (s.cpu.A : Int), .int .u8 (s.cpu.X : Int), .int .u8 (s.cpu.Y : Int), .int .u8 (s.cpu.S : Int), .int .u16 (s.cpu.PC : Int), .bool s.cpu.N, .bool s.cpu.V, .bool s.cpu.D, .bool s.cpu.I, .bool s.cpu.Z, .bool s.cpu.C, .slice (some ⟨g29, 0, none⟩) s.mem.length s.mem.length, .slice (some ⟨w39.heap.size, 0, none⟩) s.trace.length s.trace.length, .slice (some ⟨w61.heap.size, 0, none⟩) s.starts.length s.starts.length, .slice (some ⟨w85.heap.size, 0, none⟩) s.cpus.length s.cpus.length, .bool s.jam]) q113 15 (.bool s.jam) (by kernel_rfl) (by
    have hc := q113.cell 15 (.bool false) rfl
    have hf := q113.frozen 15
    simp [go_sem, hc, hf])
  replace z129 := Lib.hid z129
  have b130 := b116.trans (sp128.below (by have := z10.out; have := z18.out; have := z23.out; have := z27.out; have := z38.out; have := z43.out; have := z48.out; have := z60.out; have := z65.out; have := z71.out; have := z84.out; have := z89.out; have := z96.out; have := z110.out; have := z115.out; have := z123.out; have := z129.out; omega) b116.size)
  have p131 := p117.span sp128 (by have := z10.out; have := z18.out; have := z23.out; have := z27.out; have := z38.out; have := z43.out; have := z48.out; have := z60.out; have := z65.out; have := z71.out; have := z84.out; have := z89.out; have := z96.out; have := z110.out; have := z115.out; have := z123.out; have := z129.out; omega)
  have p132 := p118.span sp128 (by have := z10.out; have := z18.out; have := z23.out; have := z27.out; have := z38.out; have := z43.out; have := z48.out; have := z60.out; have := z65.out; have := z71.out; have := z84.out; have := z89.out; have := z96.out; have := z110.out; have := z115.out; have := z123.out; have := z129.out; omega)
  have s133 := s119.span sp128 (by have := z10.out; have := z18.out; have := z23.out; have := z27.out; have := z38.out; have := z43.out; have := z48.out; have := z60.out; have := z65.out; have := z71.out; have := z84.out; have := z89.out; have := z96.out; have := z110.out; have := z115.out; have := z123.out; have := z129.out; omega)
  have s134 := s120.span sp128 (by have := z10.out; have := z18.out; have := z23.out; have := z27.out; have := z38.out; have := z43.out; have := z48.out; have := z60.out; have := z65.out; have := z71.out; have := z84.out; have := z89.out; have := z96.out; have := z110.out; have := z115.out; have := z123.out; have := z129.out; omega)
  have s135 := s121.span sp128 (by have := z10.out; have := z18.out; have := z23.out; have := z27.out; have := z38.out; have := z43.out; have := z48.out; have := z60.out; have := z65.out; have := z71.out; have := z84.out; have := z89.out; have := z96.out; have := z110.out; have := z115.out; have := z123.out; have := z129.out; omega)
  have s136 := s122.span sp128 (by have := z10.out; have := z18.out; have := z23.out; have := z27.out; have := z38.out; have := z43.out; have := z48.out; have := z60.out; have := z65.out; have := z71.out; have := z84.out; have := z89.out; have := z96.out; have := z110.out; have := z115.out; have := z123.out; have := z129.out; omega)
  have z137 := Lib.hid sp128.size
  clear b116 p117 p118 s119 s120 s121 s122 sp128
  have ld138 : (Instr.loadAt 35 (.pointer (some ⟨(w.heap.size + 1 + 1), 0, none⟩))).run Try.prog w125 = .ok (.agg #[.int .u8 (s.cpu.A : Int), .int .u8 (s.cpu.X : Int), .int .u8 (s.cpu.Y : Int), .int .u8 (s.cpu.S : Int), .int .u16 (s.cpu.PC : Int), .bool s.cpu.N, .bool s.cpu.V, .bool s.cpu.D, .bool s.cpu.I, .bool s.cpu.Z, .bool s.cpu.C, .slice (some ⟨g29, 0, none⟩) s.mem.length s.mem.length, .slice (some ⟨w39.heap.size, 0, none⟩) s.trace.length s.trace.length, .slice (some ⟨w61.heap.size, 0, none⟩) s.starts.length s.starts.length, .slice (some ⟨w85.heap.size, 0, none⟩) s.cpus.length s.cpus.length, .bool s.jam]) w125 := load_part q127 0 #[.int .u8 (s.cpu.A : Int), .int .u8 (s.cpu.X : Int), .int .u8 (s.cpu.Y : Int), .int .u8 (s.cpu.S : Int), .int .u16 (s.cpu.PC : Int), .bool s.cpu.N, .bool s.cpu.V, .bool s.cpu.D, .bool s.cpu.I, .bool s.cpu.Z, .bool s.cpu.C, .slice (some ⟨g29, 0, none⟩) s.mem.length s.mem.length, .slice (some ⟨w39.heap.size, 0, none⟩) s.trace.length s.trace.length, .slice (some ⟨w61.heap.size, 0, none⟩) s.starts.length s.starts.length, .slice (some ⟨w85.heap.size, 0, none⟩) s.cpus.length s.cpus.length, .bool s.jam] (by kernel_rfl) (by kernel_rfl) (by kernel_rfl)
  obtain ⟨w139, hs140, q141, sp142, z143⟩ := store_part (ty := 35) (cs' := #[.int .u8 (s.cpu.A : Int), .int .u8 (s.cpu.X : Int), .int .u8 (s.cpu.Y : Int), .int .u8 (s.cpu.S : Int), .int .u16 (s.cpu.PC : Int), .bool s.cpu.N, .bool s.cpu.V, .bool s.cpu.D, .bool s.cpu.I, .bool s.cpu.Z, .bool s.cpu.C, .slice (some ⟨g29, 0, none⟩) s.mem.length s.mem.length, .slice (some ⟨w39.heap.size, 0, none⟩) s.trace.length s.trace.length, .slice (some ⟨w61.heap.size, 0, none⟩) s.starts.length s.starts.length, .slice (some ⟨w85.heap.size, 0, none⟩) s.cpus.length s.cpus.length, .bool s.jam]) p132 0 #[.int .u8 (s.cpu.A : Int), .int .u8 (s.cpu.X : Int), .int .u8 (s.cpu.Y : Int), .int .u8 (s.cpu.S : Int), .int .u16 (s.cpu.PC : Int), .bool s.cpu.N, .bool s.cpu.V, .bool s.cpu.D, .bool s.cpu.I, .bool s.cpu.Z, .bool s.cpu.C, .slice (some ⟨g29, 0, none⟩) s.mem.length s.mem.length, .slice (some ⟨w39.heap.size, 0, none⟩) s.trace.length s.trace.length, .slice (some ⟨w61.heap.size, 0, none⟩) s.starts.length s.starts.length, .slice (some ⟨w85.heap.size, 0, none⟩) s.cpus.length s.cpus.length, .bool s.jam] (by kernel_rfl) (Nat.le_of_ble_eq_true (by kernel_rfl)) (by kernel_rfl) (by kernel_rfl)
  replace z143 := Lib.hid z143
  have b144 := b130.trans (sp142.below (by have := z10.out; have := z18.out; have := z23.out; have := z27.out; have := z38.out; have := z43.out; have := z48.out; have := z60.out; have := z65.out; have := z71.out; have := z84.out; have := z89.out; have := z96.out; have := z110.out; have := z115.out; have := z123.out; have := z129.out; have := z137.out; have := z143.out; omega) b130.size)
  have p145 := p131.span sp142 (by have := z10.out; have := z18.out; have := z23.out; have := z27.out; have := z38.out; have := z43.out; have := z48.out; have := z60.out; have := z65.out; have := z71.out; have := z84.out; have := z89.out; have := z96.out; have := z110.out; have := z115.out; have := z123.out; have := z129.out; have := z137.out; have := z143.out; omega)
  have p146 := q127.span sp142 (by have := z10.out; have := z18.out; have := z23.out; have := z27.out; have := z38.out; have := z43.out; have := z48.out; have := z60.out; have := z65.out; have := z71.out; have := z84.out; have := z89.out; have := z96.out; have := z110.out; have := z115.out; have := z123.out; have := z129.out; have := z137.out; have := z143.out; omega)
  have s147 := s133.span sp142 (by have := z10.out; have := z18.out; have := z23.out; have := z27.out; have := z38.out; have := z43.out; have := z48.out; have := z60.out; have := z65.out; have := z71.out; have := z84.out; have := z89.out; have := z96.out; have := z110.out; have := z115.out; have := z123.out; have := z129.out; have := z137.out; have := z143.out; omega)
  have s148 := s134.span sp142 (by have := z10.out; have := z18.out; have := z23.out; have := z27.out; have := z38.out; have := z43.out; have := z48.out; have := z60.out; have := z65.out; have := z71.out; have := z84.out; have := z89.out; have := z96.out; have := z110.out; have := z115.out; have := z123.out; have := z129.out; have := z137.out; have := z143.out; omega)
  have s149 := s135.span sp142 (by have := z10.out; have := z18.out; have := z23.out; have := z27.out; have := z38.out; have := z43.out; have := z48.out; have := z60.out; have := z65.out; have := z71.out; have := z84.out; have := z89.out; have := z96.out; have := z110.out; have := z115.out; have := z123.out; have := z129.out; have := z137.out; have := z143.out; omega)
  have s150 := s136.span sp142 (by have := z10.out; have := z18.out; have := z23.out; have := z27.out; have := z38.out; have := z43.out; have := z48.out; have := z60.out; have := z65.out; have := z71.out; have := z84.out; have := z89.out; have := z96.out; have := z110.out; have := z115.out; have := z123.out; have := z129.out; have := z137.out; have := z143.out; omega)
  have z151 := Lib.hid sp142.size
  clear b130 p131 q127 s133 s134 s135 s136 sp142
  go_wp2_with (first | (refine wpList_store_run hs112 rfl rfl rfl rfl rfl ?_) | (refine wpList_load_run ld124 rfl rfl rfl ?_) | (refine wpList_store_run hs126 rfl rfl rfl rfl rfl ?_) | (refine wpList_load_run ld138 rfl rfl rfl ?_) | (refine wpList_store_run hs140 rfl rfl rfl rfl rfl ?_))
  refine bodyPost_ret (v := shotV s.cpu (.slice (some ⟨g29, 0, none⟩) s.mem.length s.mem.length) (.slice (some ⟨w39.heap.size, 0, none⟩) s.trace.length s.trace.length) (.slice (some ⟨w61.heap.size, 0, none⟩) s.starts.length s.starts.length) (.slice (some ⟨w85.heap.size, 0, none⟩) s.cpus.length s.cpus.length) s.jam) (result_box Try.results17 q141 rfl (by kernel_rfl) (by kernel_rfl)) rfl ⟨_, _, _, _, rfl, ⟨w19.heap.size, w32.heap.size, w39.heap.size, w53.heap.size, w61.heap.size, w76.heap.size, w85.heap.size, w101.heap.size, ?_⟩, b144⟩
  exact ⟨s147, s148, s149, s150, by have := z10.out; have := z18.out; have := z23.out; have := z27.out; have := z38.out; have := z43.out; have := z48.out; have := z60.out; have := z65.out; have := z71.out; have := z84.out; have := z89.out; have := z96.out; have := z110.out; have := z115.out; have := z123.out; have := z129.out; have := z137.out; have := z143.out; have := z151.out; omega, by have := z10.out; have := z18.out; have := z23.out; have := z27.out; have := z38.out; have := z43.out; have := z48.out; have := z60.out; have := z65.out; have := z71.out; have := z84.out; have := z89.out; have := z96.out; have := z110.out; have := z115.out; have := z123.out; have := z129.out; have := z137.out; have := z143.out; have := z151.out; omega⟩

end Go.Proofs.Ytckfdbjjjgfbfaa
