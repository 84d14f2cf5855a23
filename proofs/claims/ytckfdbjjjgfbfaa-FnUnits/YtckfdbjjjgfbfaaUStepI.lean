/-
  Contracts over the program: the model's operations on a byte of their own (l06Data at MImm).
-/
import Derived.Test.YtckfdbjjjgfbfaaUStepH
namespace Go.Proofs.Ytckfdbjjjgfbfaa
set_option linter.unusedVariables false
set_option linter.unusedSimpArgs false
open Go.RowKit

set_option maxRecDepth 100000 in
set_option maxHeartbeats 1000000 in
theorem data_imm (F : Nat → Prop) (B : Nat) (b : BusN) (c : CpuN) (hc : c.ok) (code : Nat) (hcode : code < 256) (i : Nat) (hid : opId code = i) (hi : i ∈ [1, 2, 3, 4, 6, 7, 8, 14, 24, 25, 26, 31]) (hm : opMode code = 2) (hk : opKind code = 2) (sz : Nat) (hsz : opSize code = (sz : Int)) (hsb : sz ≤ 3) (hf : b.fit 10) (w : World) (hF : ∀ i, w.heap.size ≤ i → F i) (h : BusAt w F B b) :
    Calls Try.prog 75 #[.pointer (some ⟨B, 0, none⟩), cpuV c, .int .u8 code] w fun e w' => e = .returned (cpuV (dataN b c code).1) ∧ BusAt w' F B (dataN b c code).2 ∧ Turn F w w' := by
  have hc' := hc
  obtain ⟨hA, hX, hY, hS, hP⟩ := hc
  have hN : opName code = opTx i := by unfold opName; rw [hid]
  obtain ⟨p, hp⟩ : ∃ r_, (c.PC + sz) % 65536 = r_ := ⟨_, rfl⟩
  have pb : p < 65536 := by omega
  have HN := Lib.hid hN
  have HM := Lib.hid hm
  have HK := Lib.hid hk
  have HS2 := Lib.hid hsz
  have HI := Lib.hid hid
  obtain ⟨z1, hz1⟩ : ∃ r_, b.get (c.PC + 1) = r_ := ⟨_, rfl⟩
  obtain ⟨b1, hb1⟩ : ∃ r_, b.rd (c.PC + 1) = r_ := ⟨_, rfl⟩
  obtain ⟨u, hu⟩ : ∃ r_, useL c (opTx i).toList z1 = r_ := ⟨_, rfl⟩
  have z1b : z1 < 256 := by rw [← hz1]; exact h.byte _
  have HP : dataN b c code = ({ u with PC := p }, b1) := by 
    simp [dataN, hN, hm, hk, hsz, hp, hz1, hb1, hu]
  rw [HP]
  dsimp only
  have S0 := Sit.two h hF (.cells (cpuCells c) 28) (.cells zeroCpu 28)
  have q0 : BoxN ((w.alloc (.cells (cpuCells c) 28)).alloc (.cells zeroCpu 28)) w.heap.size 28 (cpuCells c) := (BoxN.new _ _ _).below ((Below.refl _ _).alloc (Nat.le_refl _) _)
  have y0 : BoxN ((w.alloc (.cells (cpuCells c) 28)).alloc (.cells zeroCpu 28)) (w.heap.size + 1) 28 zeroCpu := by
    have := BoxN.new (w.alloc (.cells (cpuCells c) 28)) 28 zeroCpu
    rwa [World.size_alloc] at this
  have Hp := Lib.hid hp
  have Hz1 := Lib.hid hz1
  have Hb1 := Lib.hid hb1
  have Hu := Lib.hid hu
  clear HP hp hz1 hb1 hu
  go_enter Try.func75, Try.ntmps75
  clear hN hm hk hsz hid
  go_wp2_with fail
  refine (name_at code hcode HI.out _).mono ?_
  rintro e w2 ⟨rfl, d1⟩
  have q3 := q0.below d1
  have S4 := S0.below d1
  have y5 := y0.below d1
  clear q0 S0 d1 y0
  go_wp2_with fail
  refine (mode_at code hcode HM.out _).mono ?_
  rintro e w7 ⟨rfl, d6⟩
  have q8 := q3.below d6
  have S9 := S4.below d6
  have y10 := y5.below d6
  clear q3 S4 d6 y5
  go_wp2_with fail
  refine (kind_at code hcode HK.out _).mono ?_
  rintro e w12 ⟨rfl, d11⟩
  have q13 := q8.below d11
  have S14 := S9.below d11
  have y15 := y10.below d11
  clear q8 S9 d11 y10
  go_wp2_with fail
  refine (size_at code hcode HS2.out _).mono ?_
  rintro e w17 ⟨rfl, d16⟩
  have q18 := q13.below d16
  have S19 := S14.below d16
  have y20 := y15.below d16
  clear q13 S14 d16 y15
  have hp2 : IntKind.u16.wrap ((c.PC : Int) + (sz : Int)) = ((p : Nat) : Int) := by rw [u16_of]; have := Hp.out; omega
  have Hp2 := Lib.hid hp2
  clear hp2
  obtain ⟨g0, g1, g2, g3, g4, g5, g6, g7, g8, g9, g10, f0⟩ := eleven q18
  go_wp2_with fail
  clear g0 g1 g2 g3 g4 g5 g6 g7 g8 g9 g10 f0
  have wP1 : IntKind.i64.wrap (c.PC : Int) = (c.PC : Int) := IntWalk.i64_in _ (by omega)
  have wP2 : IntKind.i64.wrap ((c.PC : Int) + 1) = (c.PC : Int) + 1 := IntWalk.i64_in _ (by omega)
  obtain ⟨g0, g1, g2, g3, g4, g5, g6, g7, g8, g9, g10, f0⟩ := eleven q18.drew
  go_region_with (first | (go_at_call 69; refine (S19.drew.rd _ (c.PC + 1) (by omega) (by omega) (hf.mono (by omega)) Hz1.out Hb1.out).mono ?_; rintro e wR ⟨rfl, tR⟩; (have qR := tR.box _ _ _ (Nat.le_refl _) (by omega) q18.drew); clear g0 g1 g2 g3 g4 g5 g6 g7 g8 g9 g10 f0; obtain ⟨g0, g1, g2, g3, g4, g5, g6, g7, g8, g9, g10, f0⟩ := eleven qR) | (go_at_call 87; refine (use_at i hi c hc' z1 z1b Hu.out _).mono ?_; rintro e wU ⟨rfl, dU⟩; (have qU := qR.below dU); clear g0 g1 g2 g3 g4 g5 g6 g7 g8 g9 g10 f0; obtain ⟨g0, g1, g2, g3, g4, g5, g6, g7, g8, g9, g10, f0⟩ := eleven qU))
  all_goals
    clear wP1 wP2 g0 g1 g2 g3 g4 g5 g6 g7 g8 g9 g10 f0
    have SU := tR.sit.below dU
    have yU := (tR.box _ _ _ (by omega) (by omega) y20.drew).below dU
    clear tR dU qR q18 S19 y20
    have q21 : BoxN (set11 wU w.heap.size (.int .u8 (u.A : Int)) (.int .u8 (u.X : Int)) (.int .u8 (u.Y : Int)) (.int .u8 (u.S : Int)) (.int .u16 (u.PC : Int)) (.bool u.N) (.bool u.V) (.bool u.D) (.bool u.I) (.bool u.Z) (.bool u.C)) w.heap.size 28 (cpuCells u) := eleven_set qU (.int .u8 (u.A : Int)) (.int .u8 (u.X : Int)) (.int .u8 (u.Y : Int)) (.int .u8 (u.S : Int)) (.int .u16 (u.PC : Int)) (.bool u.N) (.bool u.V) (.bool u.D) (.bool u.I) (.bool u.Z) (.bool u.C)
    have S22 : Sit F w 2 B (set11 wU w.heap.size (.int .u8 (u.A : Int)) (.int .u8 (u.X : Int)) (.int .u8 (u.Y : Int)) (.int .u8 (u.S : Int)) (.int .u16 (u.PC : Int)) (.bool u.N) (.bool u.V) (.bool u.D) (.bool u.I) (.bool u.Z) (.bool u.C)) b1 := SU.eleven (.int .u8 (u.A : Int)) (.int .u8 (u.X : Int)) (.int .u8 (u.Y : Int)) (.int .u8 (u.S : Int)) (.int .u16 (u.PC : Int)) (.bool u.N) (.bool u.V) (.bool u.D) (.bool u.I) (.bool u.Z) (.bool u.C) (Nat.le_refl _) (by omega)
    have y23 : BoxN (set11 wU w.heap.size (.int .u8 (u.A : Int)) (.int .u8 (u.X : Int)) (.int .u8 (u.Y : Int)) (.int .u8 (u.S : Int)) (.int .u16 (u.PC : Int)) (.bool u.N) (.bool u.V) (.bool u.D) (.bool u.I) (.bool u.Z) (.bool u.C)) (w.heap.size + 1) 28 zeroCpu := eleven_other yU (by omega) (.int .u8 (u.A : Int)) (.int .u8 (u.X : Int)) (.int .u8 (u.Y : Int)) (.int .u8 (u.S : Int)) (.int .u16 (u.PC : Int)) (.bool u.N) (.bool u.V) (.bool u.D) (.bool u.I) (.bool u.Z) (.bool u.C)
    clear qU SU yU
    change BoxN (((((((((((wU.setCell ⟨w.heap.size, 0, none⟩ (.int .u8 (u.A : Int))).setCell ⟨w.heap.size, 1, none⟩ (.int .u8 (u.X : Int))).setCell ⟨w.heap.size, 2, none⟩ (.int .u8 (u.Y : Int))).setCell ⟨w.heap.size, 3, none⟩ (.int .u8 (u.S : Int))).setCell ⟨w.heap.size, 4, none⟩ (.int .u16 (u.PC : Int))).setCell ⟨w.heap.size, 5, none⟩ (.bool u.N)).setCell ⟨w.heap.size, 6, none⟩ (.bool u.V)).setCell ⟨w.heap.size, 7, none⟩ (.bool u.D)).setCell ⟨w.heap.size, 8, none⟩ (.bool u.I)).setCell ⟨w.heap.size, 9, none⟩ (.bool u.Z)).setCell ⟨w.heap.size, 10, none⟩ (.bool u.C)) _ _ _ at q21
    change Sit _ _ _ _ (((((((((((wU.setCell ⟨w.heap.size, 0, none⟩ (.int .u8 (u.A : Int))).setCell ⟨w.heap.size, 1, none⟩ (.int .u8 (u.X : Int))).setCell ⟨w.heap.size, 2, none⟩ (.int .u8 (u.Y : Int))).setCell ⟨w.heap.size, 3, none⟩ (.int .u8 (u.S : Int))).setCell ⟨w.heap.size, 4, none⟩ (.int .u16 (u.PC : Int))).setCell ⟨w.heap.size, 5, none⟩ (.bool u.N)).setCell ⟨w.heap.size, 6, none⟩ (.bool u.V)).setCell ⟨w.heap.size, 7, none⟩ (.bool u.D)).setCell ⟨w.heap.size, 8, none⟩ (.bool u.I)).setCell ⟨w.heap.size, 9, none⟩ (.bool u.Z)).setCell ⟨w.heap.size, 10, none⟩ (.bool u.C)) _ at S22
    change BoxN (((((((((((wU.setCell ⟨w.heap.size, 0, none⟩ (.int .u8 (u.A : Int))).setCell ⟨w.heap.size, 1, none⟩ (.int .u8 (u.X : Int))).setCell ⟨w.heap.size, 2, none⟩ (.int .u8 (u.Y : Int))).setCell ⟨w.heap.size, 3, none⟩ (.int .u8 (u.S : Int))).setCell ⟨w.heap.size, 4, none⟩ (.int .u16 (u.PC : Int))).setCell ⟨w.heap.size, 5, none⟩ (.bool u.N)).setCell ⟨w.heap.size, 6, none⟩ (.bool u.V)).setCell ⟨w.heap.size, 7, none⟩ (.bool u.D)).setCell ⟨w.heap.size, 8, none⟩ (.bool u.I)).setCell ⟨w.heap.size, 9, none⟩ (.bool u.Z)).setCell ⟨w.heap.size, 10, none⟩ (.bool u.C)) _ _ _ at y23
    generalize ((((((((((wU.setCell ⟨w.heap.size, 0, none⟩ (.int .u8 (u.A : Int))).setCell ⟨w.heap.size, 1, none⟩ (.int .u8 (u.X : Int))).setCell ⟨w.heap.size, 2, none⟩ (.int .u8 (u.Y : Int))).setCell ⟨w.heap.size, 3, none⟩ (.int .u8 (u.S : Int))).setCell ⟨w.heap.size, 4, none⟩ (.int .u16 (u.PC : Int))).setCell ⟨w.heap.size, 5, none⟩ (.bool u.N)).setCell ⟨w.heap.size, 6, none⟩ (.bool u.V)).setCell ⟨w.heap.size, 7, none⟩ (.bool u.D)).setCell ⟨w.heap.size, 8, none⟩ (.bool u.I)).setCell ⟨w.heap.size, 9, none⟩ (.bool u.Z)).setCell ⟨w.heap.size, 10, none⟩ (.bool u.C) = wV at q21 S22 y23 ⊢
    have uP : u.PC = c.PC := by rw [← Hu.out]; exact useL_PC _ _ _
    have hp2 : IntKind.u16.wrap ((u.PC : Int) + (sz : Int)) = ((p : Nat) : Int) := by rw [uP]; exact Hp2.out
    have uPb : u.PC < 65536 := by omega
    clear uP
    obtain ⟨g0, g1, g2, g3, g4, g5, g6, g7, g8, g9, g10, f0⟩ := eleven q21
    obtain ⟨h0, h1, h2, h3, h4, h5, h6, h7, h8, h9, h10, f1⟩ := eleven y23
    have HS := Lib.hid S22
    clear S22 q21 y23
    go_wp2
    refine bodyPost_ret (v := cpuV ({ u with PC := p })) (by simp [results, Try.results75, go_sem, g0, g1, g2, g3, g4, g5, g6, g7, g8, g9, g10, h0, h1, h2, h3, h4, h5, h6, h7, h8, h9, h10, hp2]) rfl ⟨rfl, ?_⟩
    refine Sit.out (k := 2) ?_
    repeat (any_goals (first | (with_reducible exact HS.out) | (with_reducible refine Sit.drew ?_) | (with_reducible refine Sit.set ?_ _ ?_ ?_)))
    all_goals (first | (with_reducible exact Nat.le_refl _) | omega | (simp; done))

end Go.Proofs.Ytckfdbjjjgfbfaa
