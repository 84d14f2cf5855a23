/-
  Contracts over the program: the model's jumps, calls, returns and what is pushed (l06Go).
-/
import Derived.Test.YtckfdbjjjgfbfaaUStepF
namespace Go.Proofs.Ytckfdbjjjgfbfaa
set_option linter.unusedVariables false
set_option linter.unusedSimpArgs false
open Go.RowKit

theorem page_one (u v : Nat) (h : u / 256 * 256 + (u + 1) % 256 = v) : (u : Int) / 256 * 256 + ((u : Int) + 1) % 256 = (v : Int) := by omega

theorem branch_any (F : Nat → Prop) (B : Nat) (b : BusN) (c : CpuN) (hc : c.ok) (i : Nat) (hi : i ∈ [41, 42, 43, 44, 45, 46, 47, 48]) (hf : b.fit 20) (w : World) (hF : ∀ i, w.heap.size ≤ i → F i) (h : BusAt w F B b) {r : CpuN × BusN} (hr : branchN b c (opTx i).toList = r) :
    Calls Try.prog 74 #[.pointer (some ⟨B, 0, none⟩), cpuV c, .string (opTx i)] w fun e w' => e = .returned (cpuV r.1) ∧ BusAt w' F B r.2 ∧ Turn F w w' := by
  subst hr
  by_cases hh : holdsL c (opTx i).toList = true
  · by_cases ht : tCase b c
    · exact branch_same F B b c hc i hi hh ht hf w hF h
    · exact branch_cross F B b c hc i hi hh ht hf w hF h
  · exact branch_no F B b c hc i hi (by simpa using hh) hf w hF h

theorem hold_any (F : Nat → Prop) (B : Nat) (b : BusN) (c : CpuN) (hc : c.ok) (i : Nat) (hi : i ∈ [33, 34, 35, 36]) (hf : b.fit 20) (w : World) (hF : ∀ i, w.heap.size ≤ i → F i) (h : BusAt w F B b) {r : CpuN × BusN} (hr : holdN b c (opTx i).toList = r) :
    Calls Try.prog 90 #[.pointer (some ⟨B, 0, none⟩), cpuV c, .string (opTx i)] w fun e w' => e = .returned (cpuV r.1) ∧ BusAt w' F B r.2 ∧ Turn F w w' := by
  subst hr
  simp only [List.mem_cons, List.not_mem_nil, or_false] at hi
  rcases hi with rfl | rfl | rfl | rfl
  · rw [show (opTx 33).toList = [80, 72, 80] by rw [ByteArray.toList_eq]; rfl]; exact hold_PHP F B b c hc hf w hF h
  · rw [show (opTx 34).toList = [80, 76, 80] by rw [ByteArray.toList_eq]; rfl]; exact hold_PLP F B b c hc hf w hF h
  · rw [show (opTx 35).toList = [80, 72, 65] by rw [ByteArray.toList_eq]; rfl]; exact hold_PHA F B b c hc hf w hF h
  · rw [show (opTx 36).toList = [80, 76, 65] by rw [ByteArray.toList_eq]; rfl]; exact hold_PLA F B b c hc hf w hF h

theorem push_at (F : Nat → Prop) (B : Nat) (b : BusN) (c : CpuN) (hc : c.ok) (pc : Nat) (hpc : pc < 65536) (brk : Bool) (vec : Nat) (hvec : vec < 65536) (hf : b.fit 20) (w : World) (hF : ∀ i, w.heap.size ≤ i → F i) (h : BusAt w F B b) (x y : Int) (hx : x = (pc : Int)) (hy : y = (vec : Int)) {r : CpuN × BusN} (hr : pushN b c pc brk vec = r) :
    Calls Try.prog 70 #[.pointer (some ⟨B, 0, none⟩), cpuV c, .int .i64 x, .bool brk, .int .i64 y] w fun e w' => e = .returned (cpuV r.1) ∧ BusAt w' F B r.2 ∧ Turn F w w' := by
  subst hr
  subst hx
  subst hy
  exact push_any F B b c hc pc hpc brk vec hvec hf w hF h

set_option maxRecDepth 100000 in
theorem go_jmp (F : Nat → Prop) (B : Nat) (b : BusN) (c : CpuN) (hc : c.ok) (hf : b.fit 10) (w : World) (hF : ∀ i, w.heap.size ≤ i → F i) (h : BusAt w F B b) :
    Calls Try.prog 76 #[.pointer (some ⟨B, 0, none⟩), cpuV c, .string ⟨#[74, 77, 80]⟩, .int .i64 6] w fun e w' => e = .returned (cpuV (goN b c [74, 77, 80] 6).1) ∧ BusAt w' F B (goN b c [74, 77, 80] 6).2 ∧ Turn F w w' := by
  have hc' := hc
  obtain ⟨hA, hX, hY, hS, hP⟩ := hc
  have wS : IntKind.i64.wrap (c.S : Int) = (c.S : Int) := IntWalk.i64_in _ (by omega)
  have wP : IntKind.i64.wrap (c.PC : Int) = (c.PC : Int) := IntWalk.i64_in _ (by omega)
  obtain ⟨z1, hz1⟩ : ∃ r_, b.get (c.PC + 1) = r_ := ⟨_, rfl⟩
  obtain ⟨b1, hb1⟩ : ∃ r_, b.rd (c.PC + 1) = r_ := ⟨_, rfl⟩
  have Fb1 : b1.fit 11 := by rw [← hb1]; exact hf.rd
  obtain ⟨z2, hz2⟩ : ∃ r_, b1.get (c.PC + 2) = r_ := ⟨_, rfl⟩
  obtain ⟨b2, hb2⟩ : ∃ r_, b1.rd (c.PC + 2) = r_ := ⟨_, rfl⟩
  have Fb2 : b2.fit 12 := by rw [← hb2]; exact Fb1.rd
  obtain ⟨u, hu⟩ : ∃ r_, word z1 z2 = r_ := ⟨_, rfl⟩
  have HP : goN b c [74, 77, 80] 6 = ({ c with PC := u }, b2) := by 
    simp [goN, hz1, hb1, hz2, hb2, hu]
  rw [HP]
  dsimp only
  have S0 := Sit.two h hF (.cells (cpuCells c) 28) (.cells zeroCpu 28)
  have q0 : BoxN ((w.alloc (.cells (cpuCells c) 28)).alloc (.cells zeroCpu 28)) w.heap.size 28 (cpuCells c) := (BoxN.new _ _ _).below ((Below.refl _ _).alloc (Nat.le_refl _) _)
  have y0 : BoxN ((w.alloc (.cells (cpuCells c) 28)).alloc (.cells zeroCpu 28)) (w.heap.size + 1) 28 zeroCpu := by
    have := BoxN.new (w.alloc (.cells (cpuCells c) 28)) 28 zeroCpu
    rwa [World.size_alloc] at this
  have Hz1 := Lib.hid hz1
  have Hb1 := Lib.hid hb1
  have Hz2 := Lib.hid hz2
  have Hb2 := Lib.hid hb2
  have Hu := Lib.hid hu
  clear HP hz1 hb1 hz2 hb2 hu
  go_enter Try.func76, Try.ntmps76
  go_wp2_with fail
  go_region_held3 (fun w' => w'.cell? ⟨w.heap.size, 4, none⟩ = some (.int .u16 (c.PC : Int)) ∧ w'.cell? ⟨w.heap.size, 3, none⟩ = some (.int .u8 (c.S : Int)))
    (((try dsimp only); (first | (exact ⟨q0.cell 4 _ rfl, q0.cell 3 _ rfl⟩))))
    (first | fail)
  have q1 := q0.drew
  have S2 := S0.drew
  have y3 := y0.drew
  clear q0 S0 y0
  clear wP wS
  go_wp2_with fail
  refine (S2.rd _ (c.PC + 1) (by omega) (by omega) (hf.mono (by omega)) Hz1.out Hb1.out).mono ?_
  rintro e w5 ⟨rfl, t4⟩
  have q6 := t4.box _ _ _ (Nat.le_refl _) (by omega) q1
  have y8 := t4.box _ _ _ (by omega) (by omega) y3
  have S7 := t4.sit
  have z1b : z1 < 256 := by rw [← Hz1.out]; exact S2.bus.byte _
  clear q1 S2 t4 y3
  obtain ⟨g0, g1, g2, g3, g4, g5, g6, g7, g8, g9, g10, f0⟩ := eleven q6
  go_wp2_with fail
  refine (S7.rd _ (c.PC + 2) (by omega) (by omega) (Fb1.mono (by omega)) Hz2.out Hb2.out).mono ?_
  rintro e w10 ⟨rfl, t9⟩
  have q11 := t9.box _ _ _ (Nat.le_refl _) (by omega) q6
  have y13 := t9.box _ _ _ (by omega) (by omega) y8
  have S12 := t9.sit
  have z2b : z2 < 256 := by rw [← Hz2.out]; exact S7.bus.byte _
  clear g0 g1 g2 g3 g4 g5 g6 g7 g8 g9 g10 f0
  clear q6 S7 t9 y8
  obtain ⟨g0, g1, g2, g3, g4, g5, g6, g7, g8, g9, g10, f0⟩ := eleven q11
  obtain ⟨h0, h1, h2, h3, h4, h5, h6, h7, h8, h9, h10, f1⟩ := eleven y13
  go_wp2_with fail
  refine (word_at z1 z2 z1b z2b Hu.out _).mono ?_
  rintro e w14 ⟨rfl, rfl⟩
  have ub : u < 65536 := by rw [← Hu.out]; unfold word; omega
  have HS := Lib.hid S12
  clear S12 q11 y13
  go_wp2
  refine bodyPost_ret (v := cpuV ({ c with PC := u })) (by simp [results, Try.results76, go_sem, g0, g1, g2, g3, g4, g5, g6, g7, g8, g9, g10, h0, h1, h2, h3, h4, h5, h6, h7, h8, h9, h10]) rfl ⟨rfl, ?_⟩
  refine Sit.out (k := 2) ?_
  repeat (any_goals (first | (with_reducible exact HS.out) | (with_reducible refine Sit.drew ?_) | (with_reducible refine Sit.set ?_ _ ?_ ?_)))
  all_goals (first | (with_reducible exact Nat.le_refl _) | omega | (simp; done))

set_option maxRecDepth 100000 in
set_option maxHeartbeats 2000000 in
theorem go_ind (F : Nat → Prop) (B : Nat) (b : BusN) (c : CpuN) (hc : c.ok) (hf : b.fit 10) (w : World) (hF : ∀ i, w.heap.size ≤ i → F i) (h : BusAt w F B b) :
    Calls Try.prog 76 #[.pointer (some ⟨B, 0, none⟩), cpuV c, .string ⟨#[74, 77, 80]⟩, .int .i64 9] w fun e w' => e = .returned (cpuV (goN b c [74, 77, 80] 9).1) ∧ BusAt w' F B (goN b c [74, 77, 80] 9).2 ∧ Turn F w w' := by
  have hc' := hc
  obtain ⟨hA, hX, hY, hS, hP⟩ := hc
  have wS : IntKind.i64.wrap (c.S : Int) = (c.S : Int) := IntWalk.i64_in _ (by omega)
  have wP : IntKind.i64.wrap (c.PC : Int) = (c.PC : Int) := IntWalk.i64_in _ (by omega)
  obtain ⟨z1, hz1⟩ : ∃ r_, b.get (c.PC + 1) = r_ := ⟨_, rfl⟩
  obtain ⟨b1, hb1⟩ : ∃ r_, b.rd (c.PC + 1) = r_ := ⟨_, rfl⟩
  have Fb1 : b1.fit 11 := by rw [← hb1]; exact hf.rd
  obtain ⟨z2, hz2⟩ : ∃ r_, b1.get (c.PC + 2) = r_ := ⟨_, rfl⟩
  obtain ⟨b2, hb2⟩ : ∃ r_, b1.rd (c.PC + 2) = r_ := ⟨_, rfl⟩
  have Fb2 : b2.fit 12 := by rw [← hb2]; exact Fb1.rd
  obtain ⟨u, hu⟩ : ∃ r_, word z1 z2 = r_ := ⟨_, rfl⟩
  obtain ⟨z3, hz3⟩ : ∃ r_, b2.get (u) = r_ := ⟨_, rfl⟩
  obtain ⟨b3, hb3⟩ : ∃ r_, b2.rd (u) = r_ := ⟨_, rfl⟩
  have Fb3 : b3.fit 13 := by rw [← hb3]; exact Fb2.rd
  obtain ⟨v, hv⟩ : ∃ r_, u / 256 * 256 + (u + 1) % 256 = r_ := ⟨_, rfl⟩
  obtain ⟨z4, hz4⟩ : ∃ r_, b3.get (v) = r_ := ⟨_, rfl⟩
  obtain ⟨b4, hb4⟩ : ∃ r_, b3.rd (v) = r_ := ⟨_, rfl⟩
  have Fb4 : b4.fit 14 := by rw [← hb4]; exact Fb3.rd
  obtain ⟨t, ht⟩ : ∃ r_, word z3 z4 = r_ := ⟨_, rfl⟩
  have HP : goN b c [74, 77, 80] 9 = ({ c with PC := t }, b4) := by 
    have gz : b2.get v = z4 := by rw [← hz4, ← hb3]; rfl
    simp [goN, hz1, hb1, hz2, hb2, hu, hz3, hb3, hv, hz4, hb4, ht, gz]
  rw [HP]
  dsimp only
  have S0 := Sit.two h hF (.cells (cpuCells c) 28) (.cells zeroCpu 28)
  have q0 : BoxN ((w.alloc (.cells (cpuCells c) 28)).alloc (.cells zeroCpu 28)) w.heap.size 28 (cpuCells c) := (BoxN.new _ _ _).below ((Below.refl _ _).alloc (Nat.le_refl _) _)
  have y0 : BoxN ((w.alloc (.cells (cpuCells c) 28)).alloc (.cells zeroCpu 28)) (w.heap.size + 1) 28 zeroCpu := by
    have := BoxN.new (w.alloc (.cells (cpuCells c) 28)) 28 zeroCpu
    rwa [World.size_alloc] at this
  have Hz1 := Lib.hid hz1
  have Hb1 := Lib.hid hb1
  have Hz2 := Lib.hid hz2
  have Hb2 := Lib.hid hb2
  have Hu := Lib.hid hu
  have Hz3 := Lib.hid hz3
  have Hb3 := Lib.hid hb3
  have Hv := Lib.hid hv
  have Hz4 := Lib.hid hz4
  have Hb4 := Lib.hid hb4
  have Ht := Lib.hid ht
  clear HP hz1 hb1 hz2 hb2 hu hz3 hb3 hv hz4 hb4 ht
  go_enter Try.func76, Try.ntmps76
  go_wp2_with fail
  go_region_held3 (fun w' => w'.cell? ⟨w.heap.size, 4, none⟩ = some (.int .u16 (c.PC : Int)) ∧ w'.cell? ⟨w.heap.size, 3, none⟩ = some (.int .u8 (c.S : Int)))
    (((try dsimp only); (first | (exact ⟨q0.cell 4 _ rfl, q0.cell 3 _ rfl⟩))))
    (first | fail)
  have q1 := q0.drew
  have S2 := S0.drew
  have y3 := y0.drew
  clear q0 S0 y0
  clear wP wS
  go_wp2_with fail
  refine (S2.rd _ (c.PC + 1) (by omega) (by omega) (hf.mono (by omega)) Hz1.out Hb1.out).mono ?_
  rintro e w5 ⟨rfl, t4⟩
  have q6 := t4.box _ _ _ (Nat.le_refl _) (by omega) q1
  have y8 := t4.box _ _ _ (by omega) (by omega) y3
  have S7 := t4.sit
  have z1b : z1 < 256 := by rw [← Hz1.out]; exact S2.bus.byte _
  clear q1 S2 t4 y3
  obtain ⟨g0, g1, g2, g3, g4, g5, g6, g7, g8, g9, g10, f0⟩ := eleven q6
  go_wp2_with fail
  refine (S7.rd _ (c.PC + 2) (by omega) (by omega) (Fb1.mono (by omega)) Hz2.out Hb2.out).mono ?_
  rintro e w10 ⟨rfl, t9⟩
  have q11 := t9.box _ _ _ (Nat.le_refl _) (by omega) q6
  have y13 := t9.box _ _ _ (by omega) (by omega) y8
  have S12 := t9.sit
  have z2b : z2 < 256 := by rw [← Hz2.out]; exact S7.bus.byte _
  clear g0 g1 g2 g3 g4 g5 g6 g7 g8 g9 g10 f0
  clear q6 S7 t9 y8
  obtain ⟨g0, g1, g2, g3, g4, g5, g6, g7, g8, g9, g10, f0⟩ := eleven q11
  obtain ⟨h0, h1, h2, h3, h4, h5, h6, h7, h8, h9, h10, f1⟩ := eleven y13
  go_wp2_with fail
  refine (word_at z1 z2 z1b z2b Hu.out _).mono ?_
  rintro e w14 ⟨rfl, rfl⟩
  have ub : u < 65536 := by rw [← Hu.out]; unfold word; omega
  go_wp2_with fail
  refine (S12.rd _ (u) rfl (by omega) (Fb2.mono (by omega)) Hz3.out Hb3.out).mono ?_
  rintro e w16 ⟨rfl, t15⟩
  have q17 := t15.box _ _ _ (Nat.le_refl _) (by omega) q11
  have y19 := t15.box _ _ _ (by omega) (by omega) y13
  have S18 := t15.sit
  have z3b : z3 < 256 := by rw [← Hz3.out]; exact S12.bus.byte _
  clear g0 g1 g2 g3 g4 g5 g6 g7 g8 g9 g10 f0 h0 h1 h2 h3 h4 h5 h6 h7 h8 h9 h10 f1
  clear q11 S12 t15 y13
  obtain ⟨g0, g1, g2, g3, g4, g5, g6, g7, g8, g9, g10, f0⟩ := eleven q17
  obtain ⟨h0, h1, h2, h3, h4, h5, h6, h7, h8, h9, h10, f1⟩ := eleven y19
  have vb : v < 65536 := by rw [← Hv.out]; omega
  have HV := Lib.hid (page_one u v Hv.out)
  go_wp2_with fail
  refine (S18.rd _ (v) HV.out (by omega) (Fb3.mono (by omega)) Hz4.out Hb4.out).mono ?_
  rintro e w21 ⟨rfl, t20⟩
  have q22 := t20.box _ _ _ (Nat.le_refl _) (by omega) q17
  have y24 := t20.box _ _ _ (by omega) (by omega) y19
  have S23 := t20.sit
  have z4b : z4 < 256 := by rw [← Hz4.out]; exact S18.bus.byte _
  clear g0 g1 g2 g3 g4 g5 g6 g7 g8 g9 g10 f0 h0 h1 h2 h3 h4 h5 h6 h7 h8 h9 h10 f1
  clear q17 S18 t20 y19
  obtain ⟨g0, g1, g2, g3, g4, g5, g6, g7, g8, g9, g10, f0⟩ := eleven q22
  obtain ⟨h0, h1, h2, h3, h4, h5, h6, h7, h8, h9, h10, f1⟩ := eleven y24
  go_wp2_with fail
  refine (word_at z3 z4 z3b z4b Ht.out _).mono ?_
  rintro e w25 ⟨rfl, rfl⟩
  have tb : t < 65536 := by rw [← Ht.out]; unfold word; omega
  have HS := Lib.hid S23
  clear S23 q22 y24
  go_wp2
  refine bodyPost_ret (v := cpuV ({ c with PC := t })) (by simp [results, Try.results76, go_sem, g0, g1, g2, g3, g4, g5, g6, g7, g8, g9, g10, h0, h1, h2, h3, h4, h5, h6, h7, h8, h9, h10]) rfl ⟨rfl, ?_⟩
  refine Sit.out (k := 2) ?_
  repeat (any_goals (first | (with_reducible exact HS.out) | (with_reducible refine Sit.drew ?_) | (with_reducible refine Sit.set ?_ _ ?_ ?_)))
  all_goals (first | (with_reducible exact Nat.le_refl _) | omega | (simp; done))

set_option maxRecDepth 100000 in
theorem go_jsr (F : Nat → Prop) (B : Nat) (b : BusN) (c : CpuN) (hc : c.ok) (hf : b.fit 10) (w : World) (hF : ∀ i, w.heap.size ≤ i → F i) (h : BusAt w F B b) :
    Calls Try.prog 76 #[.pointer (some ⟨B, 0, none⟩), cpuV c, .string ⟨#[74, 83, 82]⟩, .int .i64 6] w fun e w' => e = .returned (cpuV (goN b c [74, 83, 82] 6).1) ∧ BusAt w' F B (goN b c [74, 83, 82] 6).2 ∧ Turn F w w' := by
  have hc' := hc
  obtain ⟨hA, hX, hY, hS, hP⟩ := hc
  have wS : IntKind.i64.wrap (c.S : Int) = (c.S : Int) := IntWalk.i64_in _ (by omega)
  have wP : IntKind.i64.wrap (c.PC : Int) = (c.PC : Int) := IntWalk.i64_in _ (by omega)
  obtain ⟨z1, hz1⟩ : ∃ r_, b.get (c.PC + 1) = r_ := ⟨_, rfl⟩
  obtain ⟨b1, hb1⟩ : ∃ r_, b.rd (c.PC + 1) = r_ := ⟨_, rfl⟩
  have Fb1 : b1.fit 11 := by rw [← hb1]; exact hf.rd
  obtain ⟨k, hk⟩ : ∃ r_, (c.PC + 2) % 65536 = r_ := ⟨_, rfl⟩
  have kb : k < 65536 := by omega
  obtain ⟨s0, hs0⟩ : ∃ r_, stk c.S = r_ := ⟨_, rfl⟩
  have s0b : s0 < 1000 := by subst hs0; unfold stk; omega
  obtain ⟨z2, hz2⟩ : ∃ r_, b1.get (s0) = r_ := ⟨_, rfl⟩
  obtain ⟨b2, hb2⟩ : ∃ r_, b1.rd (s0) = r_ := ⟨_, rfl⟩
  have Fb2 : b2.fit 12 := by rw [← hb2]; exact Fb1.rd
  obtain ⟨kh, hkh⟩ : ∃ r_, k / 256 = r_ := ⟨_, rfl⟩
  have khb : kh < 256 := by omega
  obtain ⟨kl, hkl⟩ : ∃ r_, k % 256 = r_ := ⟨_, rfl⟩
  have klb : kl < 256 := by omega
  obtain ⟨b3, hb3⟩ : ∃ r_, b2.put (s0) (kh) = r_ := ⟨_, rfl⟩
  have Fb3 : b3.fit 13 := by rw [← hb3]; exact Fb2.put
  obtain ⟨s1, hs1⟩ : ∃ r_, stk (c.S + 255) = r_ := ⟨_, rfl⟩
  have s1b : s1 < 1000 := by subst hs1; unfold stk; omega
  obtain ⟨b4, hb4⟩ : ∃ r_, b3.put (s1) (kl) = r_ := ⟨_, rfl⟩
  have Fb4 : b4.fit 14 := by rw [← hb4]; exact Fb3.put
  obtain ⟨z5, hz5⟩ : ∃ r_, b4.get (c.PC + 2) = r_ := ⟨_, rfl⟩
  obtain ⟨b5, hb5⟩ : ∃ r_, b4.rd (c.PC + 2) = r_ := ⟨_, rfl⟩
  have Fb5 : b5.fit 15 := by rw [← hb5]; exact Fb4.rd
  obtain ⟨u, hu⟩ : ∃ r_, word z1 z5 = r_ := ⟨_, rfl⟩
  obtain ⟨s3, hs3⟩ : ∃ r_, (c.S + 254) % 256 = r_ := ⟨_, rfl⟩
  have HP : goN b c [74, 83, 82] 6 = ({ c with PC := u, S := s3 }, b5) := by 
    simp [goN, hz1, hb1, hk, hs0, hz2, hb2, hkh, hkl, hb3, hs1, hb4, hz5, hb5, hu, hs3]
  rw [HP]
  dsimp only
  have S0 := Sit.two h hF (.cells (cpuCells c) 28) (.cells zeroCpu 28)
  have q0 : BoxN ((w.alloc (.cells (cpuCells c) 28)).alloc (.cells zeroCpu 28)) w.heap.size 28 (cpuCells c) := (BoxN.new _ _ _).below ((Below.refl _ _).alloc (Nat.le_refl _) _)
  have y0 : BoxN ((w.alloc (.cells (cpuCells c) 28)).alloc (.cells zeroCpu 28)) (w.heap.size + 1) 28 zeroCpu := by
    have := BoxN.new (w.alloc (.cells (cpuCells c) 28)) 28 zeroCpu
    rwa [World.size_alloc] at this
  have Hz1 := Lib.hid hz1
  have Hb1 := Lib.hid hb1
  have Hk := Lib.hid hk
  have Hs0 := Lib.hid hs0
  have Hz2 := Lib.hid hz2
  have Hb2 := Lib.hid hb2
  have Hkh := Lib.hid hkh
  have Hkl := Lib.hid hkl
  have Hb3 := Lib.hid hb3
  have Hs1 := Lib.hid hs1
  have Hb4 := Lib.hid hb4
  have Hz5 := Lib.hid hz5
  have Hb5 := Lib.hid hb5
  have Hu := Lib.hid hu
  have Hs3 := Lib.hid hs3
  clear HP hz1 hb1 hk hs0 hz2 hb2 hkh hkl hb3 hs1 hb4 hz5 hb5 hu hs3
  go_enter Try.func76, Try.ntmps76
  go_wp2_with fail
  go_region_held3 (fun w' => w'.cell? ⟨w.heap.size, 4, none⟩ = some (.int .u16 (c.PC : Int)) ∧ w'.cell? ⟨w.heap.size, 3, none⟩ = some (.int .u8 (c.S : Int)))
    (((try dsimp only); (first | (exact ⟨q0.cell 4 _ rfl, q0.cell 3 _ rfl⟩))))
    (first | fail)
  have q1 := q0.drew
  have S2 := S0.drew
  have y3 := y0.drew
  clear q0 S0 y0
  clear wP wS
  go_wp2_with fail
  refine (S2.rd _ (c.PC + 1) (by omega) (by omega) (hf.mono (by omega)) Hz1.out Hb1.out).mono ?_
  rintro e w5 ⟨rfl, t4⟩
  have q6 := t4.box _ _ _ (Nat.le_refl _) (by omega) q1
  have y8 := t4.box _ _ _ (by omega) (by omega) y3
  have S7 := t4.sit
  have z1b : z1 < 256 := by rw [← Hz1.out]; exact S2.bus.byte _
  clear q1 S2 t4 y3
  obtain ⟨g0, g1, g2, g3, g4, g5, g6, g7, g8, g9, g10, f0⟩ := eleven q6
  have hK : bits .and .i64 ((c.PC : Int) + 2) 65535 = (k : Int) := by have := and16 (c.PC + 2) k (by omega) Hk.out; rw [Int.natCast_add] at this; exact this
  go_wp2_with fail
  refine (stack_at _ (c.S) (by omega) (by omega) (by omega) Hs0.out _).mono ?_
  rintro e w9 ⟨rfl, rfl⟩
  go_wp2_with fail
  refine (S7.rd _ (s0) rfl (by omega) (Fb1.mono (by omega)) Hz2.out Hb2.out).mono ?_
  rintro e w11 ⟨rfl, t10⟩
  have q12 := t10.box _ _ _ (Nat.le_refl _) (by omega) q6
  have y14 := t10.box _ _ _ (by omega) (by omega) y8
  have S13 := t10.sit
  have z2b : z2 < 256 := by rw [← Hz2.out]; exact S7.bus.byte _
  clear g0 g1 g2 g3 g4 g5 g6 g7 g8 g9 g10 f0
  clear q6 S7 t10 y8
  obtain ⟨g0, g1, g2, g3, g4, g5, g6, g7, g8, g9, g10, f0⟩ := eleven q12
  go_wp2_with fail
  refine (stack_at _ c.S (by omega) (by omega) (by omega) Hs0.out _).mono ?_
  rintro e w15 ⟨rfl, rfl⟩
  go_wp2_with fail
  refine (S13.wr _ _ (s0) (kh) rfl (by have := Hkh.out; first | omega | trace_state) (by omega) (by omega) (Fb2.mono (by omega)) Hb3.out).mono ?_
  rintro e w17 ⟨rfl, t16⟩
  have q18 := t16.box _ _ _ (Nat.le_refl _) (by omega) q12
  have y20 := t16.box _ _ _ (by omega) (by omega) y14
  have S19 := t16.sit
  clear g0 g1 g2 g3 g4 g5 g6 g7 g8 g9 g10 f0
  clear q12 S13 t16 y14
  obtain ⟨g0, g1, g2, g3, g4, g5, g6, g7, g8, g9, g10, f0⟩ := eleven q18
  have hK2 := and8 k kl Hkl.out
  go_wp2_with fail
  refine (stack_at _ (c.S + 255) (by omega) (by omega) (by omega) Hs1.out _).mono ?_
  rintro e w21 ⟨rfl, rfl⟩
  go_wp2_with fail
  refine (S19.wr _ _ (s1) (kl) rfl (by first | rfl | omega | trace_state) (by omega) (by omega) (Fb3.mono (by omega)) Hb4.out).mono ?_
  rintro e w23 ⟨rfl, t22⟩
  have q24 := t22.box _ _ _ (Nat.le_refl _) (by omega) q18
  have y26 := t22.box _ _ _ (by omega) (by omega) y20
  have S25 := t22.sit
  clear g0 g1 g2 g3 g4 g5 g6 g7 g8 g9 g10 f0
  clear q18 S19 t22 y20
  clear hK2
  obtain ⟨g0, g1, g2, g3, g4, g5, g6, g7, g8, g9, g10, f0⟩ := eleven q24
  go_wp2_with fail
  refine (S25.rd _ (c.PC + 2) (by omega) (by omega) (Fb4.mono (by omega)) Hz5.out Hb5.out).mono ?_
  rintro e w28 ⟨rfl, t27⟩
  have q29 := t27.box _ _ _ (Nat.le_refl _) (by omega) q24
  have y31 := t27.box _ _ _ (by omega) (by omega) y26
  have S30 := t27.sit
  have z5b : z5 < 256 := by rw [← Hz5.out]; exact S25.bus.byte _
  clear g0 g1 g2 g3 g4 g5 g6 g7 g8 g9 g10 f0
  clear q24 S25 t27 y26
  obtain ⟨g0, g1, g2, g3, g4, g5, g6, g7, g8, g9, g10, f0⟩ := eleven q29
  obtain ⟨h0, h1, h2, h3, h4, h5, h6, h7, h8, h9, h10, f1⟩ := eleven y31
  clear hK
  go_wp2_with fail
  refine (word_at z1 z5 z1b z5b Hu.out _).mono ?_
  rintro e w32 ⟨rfl, rfl⟩
  have ub : u < 65536 := by rw [← Hu.out]; unfold word; omega
  have hS3 : IntKind.u8.wrap ((c.S : Int) - 2) = ((s3 : Nat) : Int) := by rw [u8_of]; have := Hs3.out; omega
  have HS := Lib.hid S30
  clear S30 q29 y31
  go_wp2
  refine bodyPost_ret (v := cpuV ({ c with PC := u, S := s3 })) (by simp [results, Try.results76, go_sem, g0, g1, g2, g3, g4, g5, g6, g7, g8, g9, g10, h0, h1, h2, h3, h4, h5, h6, h7, h8, h9, h10, hS3]) rfl ⟨rfl, ?_⟩
  refine Sit.out (k := 2) ?_
  repeat (any_goals (first | (with_reducible exact HS.out) | (with_reducible refine Sit.drew ?_) | (with_reducible refine Sit.set ?_ _ ?_ ?_)))
  all_goals (first | (with_reducible exact Nat.le_refl _) | omega | (simp; done))

set_option maxRecDepth 100000 in
theorem go_rts (F : Nat → Prop) (B : Nat) (b : BusN) (c : CpuN) (hc : c.ok) (hf : b.fit 10) (w : World) (hF : ∀ i, w.heap.size ≤ i → F i) (h : BusAt w F B b) :
    Calls Try.prog 76 #[.pointer (some ⟨B, 0, none⟩), cpuV c, .string ⟨#[82, 84, 83]⟩, .int .i64 0] w fun e w' => e = .returned (cpuV (goN b c [82, 84, 83] 0).1) ∧ BusAt w' F B (goN b c [82, 84, 83] 0).2 ∧ Turn F w w' := by
  have hc' := hc
  obtain ⟨hA, hX, hY, hS, hP⟩ := hc
  have wS : IntKind.i64.wrap (c.S : Int) = (c.S : Int) := IntWalk.i64_in _ (by omega)
  have wP : IntKind.i64.wrap (c.PC : Int) = (c.PC : Int) := IntWalk.i64_in _ (by omega)
  obtain ⟨z1, hz1⟩ : ∃ r_, b.get (c.PC + 1) = r_ := ⟨_, rfl⟩
  obtain ⟨b1, hb1⟩ : ∃ r_, b.rd (c.PC + 1) = r_ := ⟨_, rfl⟩
  have Fb1 : b1.fit 11 := by rw [← hb1]; exact hf.rd
  obtain ⟨s0, hs0⟩ : ∃ r_, stk c.S = r_ := ⟨_, rfl⟩
  have s0b : s0 < 1000 := by subst hs0; unfold stk; omega
  obtain ⟨z2, hz2⟩ : ∃ r_, b1.get (s0) = r_ := ⟨_, rfl⟩
  obtain ⟨b2, hb2⟩ : ∃ r_, b1.rd (s0) = r_ := ⟨_, rfl⟩
  have Fb2 : b2.fit 12 := by rw [← hb2]; exact Fb1.rd
  obtain ⟨s1, hs1⟩ : ∃ r_, stk (c.S + 1) = r_ := ⟨_, rfl⟩
  have s1b : s1 < 1000 := by subst hs1; unfold stk; omega
  obtain ⟨z3, hz3⟩ : ∃ r_, b2.get (s1) = r_ := ⟨_, rfl⟩
  obtain ⟨b3, hb3⟩ : ∃ r_, b2.rd (s1) = r_ := ⟨_, rfl⟩
  have Fb3 : b3.fit 13 := by rw [← hb3]; exact Fb2.rd
  obtain ⟨s2, hs2⟩ : ∃ r_, stk (c.S + 2) = r_ := ⟨_, rfl⟩
  have s2b : s2 < 1000 := by subst hs2; unfold stk; omega
  obtain ⟨z4, hz4⟩ : ∃ r_, b3.get (s2) = r_ := ⟨_, rfl⟩
  obtain ⟨b4, hb4⟩ : ∃ r_, b3.rd (s2) = r_ := ⟨_, rfl⟩
  have Fb4 : b4.fit 14 := by rw [← hb4]; exact Fb3.rd
  obtain ⟨u, hu⟩ : ∃ r_, word z3 z4 = r_ := ⟨_, rfl⟩
  obtain ⟨z5, hz5⟩ : ∃ r_, b4.get (u) = r_ := ⟨_, rfl⟩
  obtain ⟨b5, hb5⟩ : ∃ r_, b4.rd (u) = r_ := ⟨_, rfl⟩
  have Fb5 : b5.fit 15 := by rw [← hb5]; exact Fb4.rd
  obtain ⟨t, ht⟩ : ∃ r_, (u + 1) % 65536 = r_ := ⟨_, rfl⟩
  obtain ⟨s3, hs3⟩ : ∃ r_, (c.S + 2) % 256 = r_ := ⟨_, rfl⟩
  have HP : goN b c [82, 84, 83] 0 = ({ c with PC := t, S := s3 }, b5) := by 
    have g3 : b.get s1 = z3 := by rw [← hz3, ← hb2, ← hb1]; rfl
    have g4 : b.get s2 = z4 := by rw [← hz4, ← hb3, ← hb2, ← hb1]; rfl
    simp [goN, hz1, hb1, hs0, hz2, hb2, hs1, hz3, hb3, hs2, hz4, hb4, hu, hz5, hb5, ht, hs3, g3, g4]
  rw [HP]
  dsimp only
  have S0 := Sit.two h hF (.cells (cpuCells c) 28) (.cells zeroCpu 28)
  have q0 : BoxN ((w.alloc (.cells (cpuCells c) 28)).alloc (.cells zeroCpu 28)) w.heap.size 28 (cpuCells c) := (BoxN.new _ _ _).below ((Below.refl _ _).alloc (Nat.le_refl _) _)
  have y0 : BoxN ((w.alloc (.cells (cpuCells c) 28)).alloc (.cells zeroCpu 28)) (w.heap.size + 1) 28 zeroCpu := by
    have := BoxN.new (w.alloc (.cells (cpuCells c) 28)) 28 zeroCpu
    rwa [World.size_alloc] at this
  have Hz1 := Lib.hid hz1
  have Hb1 := Lib.hid hb1
  have Hs0 := Lib.hid hs0
  have Hz2 := Lib.hid hz2
  have Hb2 := Lib.hid hb2
  have Hs1 := Lib.hid hs1
  have Hz3 := Lib.hid hz3
  have Hb3 := Lib.hid hb3
  have Hs2 := Lib.hid hs2
  have Hz4 := Lib.hid hz4
  have Hb4 := Lib.hid hb4
  have Hu := Lib.hid hu
  have Hz5 := Lib.hid hz5
  have Hb5 := Lib.hid hb5
  have Ht := Lib.hid ht
  have Hs3 := Lib.hid hs3
  clear HP hz1 hb1 hs0 hz2 hb2 hs1 hz3 hb3 hs2 hz4 hb4 hu hz5 hb5 ht hs3
  go_enter Try.func76, Try.ntmps76
  go_wp2_with fail
  go_region_held3 (fun w' => w'.cell? ⟨w.heap.size, 4, none⟩ = some (.int .u16 (c.PC : Int)) ∧ w'.cell? ⟨w.heap.size, 3, none⟩ = some (.int .u8 (c.S : Int)))
    (((try dsimp only); (first | (exact ⟨q0.cell 4 _ rfl, q0.cell 3 _ rfl⟩))))
    (first | fail)
  have q1 := q0.drew
  have S2 := S0.drew
  have y3 := y0.drew
  clear q0 S0 y0
  clear wP wS
  go_wp2_with fail
  refine (S2.rd _ (c.PC + 1) (by omega) (by omega) (hf.mono (by omega)) Hz1.out Hb1.out).mono ?_
  rintro e w5 ⟨rfl, t4⟩
  have q6 := t4.box _ _ _ (Nat.le_refl _) (by omega) q1
  have y8 := t4.box _ _ _ (by omega) (by omega) y3
  have S7 := t4.sit
  have z1b : z1 < 256 := by rw [← Hz1.out]; exact S2.bus.byte _
  clear q1 S2 t4 y3
  obtain ⟨g0, g1, g2, g3, g4, g5, g6, g7, g8, g9, g10, f0⟩ := eleven q6
  go_wp2_with fail
  refine (stack_at _ (c.S) (by omega) (by omega) (by omega) Hs0.out _).mono ?_
  rintro e w9 ⟨rfl, rfl⟩
  go_wp2_with fail
  refine (S7.rd _ (s0) rfl (by omega) (Fb1.mono (by omega)) Hz2.out Hb2.out).mono ?_
  rintro e w11 ⟨rfl, t10⟩
  have q12 := t10.box _ _ _ (Nat.le_refl _) (by omega) q6
  have y14 := t10.box _ _ _ (by omega) (by omega) y8
  have S13 := t10.sit
  have z2b : z2 < 256 := by rw [← Hz2.out]; exact S7.bus.byte _
  clear g0 g1 g2 g3 g4 g5 g6 g7 g8 g9 g10 f0
  clear q6 S7 t10 y8
  obtain ⟨g0, g1, g2, g3, g4, g5, g6, g7, g8, g9, g10, f0⟩ := eleven q12
  go_wp2_with fail
  refine (stack_at _ (c.S + 1) (by omega) (by omega) (by omega) Hs1.out _).mono ?_
  rintro e w15 ⟨rfl, rfl⟩
  go_wp2_with fail
  refine (S13.rd _ (s1) rfl (by omega) (Fb2.mono (by omega)) Hz3.out Hb3.out).mono ?_
  rintro e w17 ⟨rfl, t16⟩
  have q18 := t16.box _ _ _ (Nat.le_refl _) (by omega) q12
  have y20 := t16.box _ _ _ (by omega) (by omega) y14
  have S19 := t16.sit
  have z3b : z3 < 256 := by rw [← Hz3.out]; exact S13.bus.byte _
  clear g0 g1 g2 g3 g4 g5 g6 g7 g8 g9 g10 f0
  clear q12 S13 t16 y14
  obtain ⟨g0, g1, g2, g3, g4, g5, g6, g7, g8, g9, g10, f0⟩ := eleven q18
  go_wp2_with fail
  refine (stack_at _ (c.S + 2) (by omega) (by omega) (by omega) Hs2.out _).mono ?_
  rintro e w21 ⟨rfl, rfl⟩
  go_wp2_with fail
  refine (S19.rd _ (s2) rfl (by omega) (Fb3.mono (by omega)) Hz4.out Hb4.out).mono ?_
  rintro e w23 ⟨rfl, t22⟩
  have q24 := t22.box _ _ _ (Nat.le_refl _) (by omega) q18
  have y26 := t22.box _ _ _ (by omega) (by omega) y20
  have S25 := t22.sit
  have z4b : z4 < 256 := by rw [← Hz4.out]; exact S19.bus.byte _
  clear g0 g1 g2 g3 g4 g5 g6 g7 g8 g9 g10 f0
  clear q18 S19 t22 y20
  obtain ⟨g0, g1, g2, g3, g4, g5, g6, g7, g8, g9, g10, f0⟩ := eleven q24
  obtain ⟨h0, h1, h2, h3, h4, h5, h6, h7, h8, h9, h10, f1⟩ := eleven y26
  go_wp2_with fail
  refine (word_at z3 z4 z3b z4b Hu.out _).mono ?_
  rintro e w27 ⟨rfl, rfl⟩
  have ub : u < 65536 := by rw [← Hu.out]; unfold word; omega
  go_wp2_with fail
  refine (S25.rd _ (u) rfl (by omega) (Fb4.mono (by omega)) Hz5.out Hb5.out).mono ?_
  rintro e w29 ⟨rfl, t28⟩
  have q30 := t28.box _ _ _ (Nat.le_refl _) (by omega) q24
  have y32 := t28.box _ _ _ (by omega) (by omega) y26
  have S31 := t28.sit
  have z5b : z5 < 256 := by rw [← Hz5.out]; exact S25.bus.byte _
  clear g0 g1 g2 g3 g4 g5 g6 g7 g8 g9 g10 f0 h0 h1 h2 h3 h4 h5 h6 h7 h8 h9 h10 f1
  clear q24 S25 t28 y26
  obtain ⟨g0, g1, g2, g3, g4, g5, g6, g7, g8, g9, g10, f0⟩ := eleven q30
  obtain ⟨h0, h1, h2, h3, h4, h5, h6, h7, h8, h9, h10, f1⟩ := eleven y32
  have hT : IntKind.u16.wrap ((u : Int) + 1) = ((t : Nat) : Int) := by rw [u16_of]; have := Ht.out; omega
  have hS3 : IntKind.u8.wrap ((c.S : Int) + 2) = ((s3 : Nat) : Int) := by rw [u8_of]; have := Hs3.out; omega
  have HS := Lib.hid S31
  clear S31 q30 y32
  go_wp2
  refine bodyPost_ret (v := cpuV ({ c with PC := t, S := s3 })) (by simp [results, Try.results76, go_sem, g0, g1, g2, g3, g4, g5, g6, g7, g8, g9, g10, h0, h1, h2, h3, h4, h5, h6, h7, h8, h9, h10, hS3, hT]) rfl ⟨rfl, ?_⟩
  refine Sit.out (k := 2) ?_
  repeat (any_goals (first | (with_reducible exact HS.out) | (with_reducible refine Sit.drew ?_) | (with_reducible refine Sit.set ?_ _ ?_ ?_)))
  all_goals (first | (with_reducible exact Nat.le_refl _) | omega | (simp; done))

set_option maxRecDepth 100000 in
theorem go_rti (F : Nat → Prop) (B : Nat) (b : BusN) (c : CpuN) (hc : c.ok) (hf : b.fit 10) (w : World) (hF : ∀ i, w.heap.size ≤ i → F i) (h : BusAt w F B b) :
    Calls Try.prog 76 #[.pointer (some ⟨B, 0, none⟩), cpuV c, .string ⟨#[82, 84, 73]⟩, .int .i64 0] w fun e w' => e = .returned (cpuV (goN b c [82, 84, 73] 0).1) ∧ BusAt w' F B (goN b c [82, 84, 73] 0).2 ∧ Turn F w w' := by
  have hc' := hc
  obtain ⟨hA, hX, hY, hS, hP⟩ := hc
  have wS : IntKind.i64.wrap (c.S : Int) = (c.S : Int) := IntWalk.i64_in _ (by omega)
  have wP : IntKind.i64.wrap (c.PC : Int) = (c.PC : Int) := IntWalk.i64_in _ (by omega)
  obtain ⟨z1, hz1⟩ : ∃ r_, b.get (c.PC + 1) = r_ := ⟨_, rfl⟩
  obtain ⟨b1, hb1⟩ : ∃ r_, b.rd (c.PC + 1) = r_ := ⟨_, rfl⟩
  have Fb1 : b1.fit 11 := by rw [← hb1]; exact hf.rd
  obtain ⟨s0, hs0⟩ : ∃ r_, stk c.S = r_ := ⟨_, rfl⟩
  have s0b : s0 < 1000 := by subst hs0; unfold stk; omega
  obtain ⟨z2, hz2⟩ : ∃ r_, b1.get (s0) = r_ := ⟨_, rfl⟩
  obtain ⟨b2, hb2⟩ : ∃ r_, b1.rd (s0) = r_ := ⟨_, rfl⟩
  have Fb2 : b2.fit 12 := by rw [← hb2]; exact Fb1.rd
  obtain ⟨s1, hs1⟩ : ∃ r_, stk (c.S + 1) = r_ := ⟨_, rfl⟩
  have s1b : s1 < 1000 := by subst hs1; unfold stk; omega
  obtain ⟨z3, hz3⟩ : ∃ r_, b2.get (s1) = r_ := ⟨_, rfl⟩
  obtain ⟨b3, hb3⟩ : ∃ r_, b2.rd (s1) = r_ := ⟨_, rfl⟩
  have Fb3 : b3.fit 13 := by rw [← hb3]; exact Fb2.rd
  obtain ⟨s2, hs2⟩ : ∃ r_, stk (c.S + 2) = r_ := ⟨_, rfl⟩
  have s2b : s2 < 1000 := by subst hs2; unfold stk; omega
  obtain ⟨z4, hz4⟩ : ∃ r_, b3.get (s2) = r_ := ⟨_, rfl⟩
  obtain ⟨b4, hb4⟩ : ∃ r_, b3.rd (s2) = r_ := ⟨_, rfl⟩
  have Fb4 : b4.fit 14 := by rw [← hb4]; exact Fb3.rd
  obtain ⟨s3, hs3⟩ : ∃ r_, stk (c.S + 3) = r_ := ⟨_, rfl⟩
  have s3b : s3 < 1000 := by subst hs3; unfold stk; omega
  obtain ⟨z5, hz5⟩ : ∃ r_, b4.get (s3) = r_ := ⟨_, rfl⟩
  obtain ⟨b5, hb5⟩ : ∃ r_, b4.rd (s3) = r_ := ⟨_, rfl⟩
  have Fb5 : b5.fit 15 := by rw [← hb5]; exact Fb4.rd
  obtain ⟨u, hu⟩ : ∃ r_, word z4 z5 = r_ := ⟨_, rfl⟩
  obtain ⟨s4, hs4⟩ : ∃ r_, (c.S + 3) % 256 = r_ := ⟨_, rfl⟩
  have HP : goN b c [82, 84, 73] 0 = ({ c with PC := u, S := s4, N := hasB z3 128, V := hasB z3 64, D := hasB z3 8, I := hasB z3 4, Z := hasB z3 2, C := hasB z3 1 }, b5) := by 
    have g3 : b.get s1 = z3 := by rw [← hz3, ← hb2, ← hb1]; rfl
    have g4 : b.get s2 = z4 := by rw [← hz4, ← hb3, ← hb2, ← hb1]; rfl
    have g5 : b.get s3 = z5 := by rw [← hz5, ← hb4, ← hb3, ← hb2, ← hb1]; rfl
    simp [goN, hz1, hb1, hs0, hz2, hb2, hs1, hz3, hb3, hs2, hz4, hb4, hs3, hz5, hb5, hu, hs4, g3, g4, g5]
  rw [HP]
  dsimp only
  have S0 := Sit.two h hF (.cells (cpuCells c) 28) (.cells zeroCpu 28)
  have q0 : BoxN ((w.alloc (.cells (cpuCells c) 28)).alloc (.cells zeroCpu 28)) w.heap.size 28 (cpuCells c) := (BoxN.new _ _ _).below ((Below.refl _ _).alloc (Nat.le_refl _) _)
  have y0 : BoxN ((w.alloc (.cells (cpuCells c) 28)).alloc (.cells zeroCpu 28)) (w.heap.size + 1) 28 zeroCpu := by
    have := BoxN.new (w.alloc (.cells (cpuCells c) 28)) 28 zeroCpu
    rwa [World.size_alloc] at this
  have Hz1 := Lib.hid hz1
  have Hb1 := Lib.hid hb1
  have Hs0 := Lib.hid hs0
  have Hz2 := Lib.hid hz2
  have Hb2 := Lib.hid hb2
  have Hs1 := Lib.hid hs1
  have Hz3 := Lib.hid hz3
  have Hb3 := Lib.hid hb3
  have Hs2 := Lib.hid hs2
  have Hz4 := Lib.hid hz4
  have Hb4 := Lib.hid hb4
  have Hs3 := Lib.hid hs3
  have Hz5 := Lib.hid hz5
  have Hb5 := Lib.hid hb5
  have Hu := Lib.hid hu
  have Hs4 := Lib.hid hs4
  clear HP hz1 hb1 hs0 hz2 hb2 hs1 hz3 hb3 hs2 hz4 hb4 hs3 hz5 hb5 hu hs4
  go_enter Try.func76, Try.ntmps76
  go_wp2_with fail
  go_region_held3 (fun w' => w'.cell? ⟨w.heap.size, 4, none⟩ = some (.int .u16 (c.PC : Int)) ∧ w'.cell? ⟨w.heap.size, 3, none⟩ = some (.int .u8 (c.S : Int)))
    (((try dsimp only); (first | (exact ⟨q0.cell 4 _ rfl, q0.cell 3 _ rfl⟩))))
    (first | fail)
  have q1 := q0.drew
  have S2 := S0.drew
  have y3 := y0.drew
  clear q0 S0 y0
  clear wP wS
  go_wp2_with fail
  refine (S2.rd _ (c.PC + 1) (by omega) (by omega) (hf.mono (by omega)) Hz1.out Hb1.out).mono ?_
  rintro e w5 ⟨rfl, t4⟩
  have q6 := t4.box _ _ _ (Nat.le_refl _) (by omega) q1
  have y8 := t4.box _ _ _ (by omega) (by omega) y3
  have S7 := t4.sit
  have z1b : z1 < 256 := by rw [← Hz1.out]; exact S2.bus.byte _
  clear q1 S2 t4 y3
  obtain ⟨g0, g1, g2, g3, g4, g5, g6, g7, g8, g9, g10, f0⟩ := eleven q6
  go_wp2_with fail
  refine (stack_at _ (c.S) (by omega) (by omega) (by omega) Hs0.out _).mono ?_
  rintro e w9 ⟨rfl, rfl⟩
  go_wp2_with fail
  refine (S7.rd _ (s0) rfl (by omega) (Fb1.mono (by omega)) Hz2.out Hb2.out).mono ?_
  rintro e w11 ⟨rfl, t10⟩
  have q12 := t10.box _ _ _ (Nat.le_refl _) (by omega) q6
  have y14 := t10.box _ _ _ (by omega) (by omega) y8
  have S13 := t10.sit
  have z2b : z2 < 256 := by rw [← Hz2.out]; exact S7.bus.byte _
  clear g0 g1 g2 g3 g4 g5 g6 g7 g8 g9 g10 f0
  clear q6 S7 t10 y8
  obtain ⟨g0, g1, g2, g3, g4, g5, g6, g7, g8, g9, g10, f0⟩ := eleven q12
  go_wp2_with fail
  refine (stack_at _ (c.S + 1) (by omega) (by omega) (by omega) Hs1.out _).mono ?_
  rintro e w15 ⟨rfl, rfl⟩
  go_wp2_with fail
  refine (S13.rd _ (s1) rfl (by omega) (Fb2.mono (by omega)) Hz3.out Hb3.out).mono ?_
  rintro e w17 ⟨rfl, t16⟩
  have q18 := t16.box _ _ _ (Nat.le_refl _) (by omega) q12
  have y20 := t16.box _ _ _ (by omega) (by omega) y14
  have S19 := t16.sit
  have z3b : z3 < 256 := by rw [← Hz3.out]; exact S13.bus.byte _
  clear g0 g1 g2 g3 g4 g5 g6 g7 g8 g9 g10 f0
  clear q12 S13 t16 y14
  obtain ⟨g0, g1, g2, g3, g4, g5, g6, g7, g8, g9, g10, f0⟩ := eleven q18
  go_wp2_with fail
  refine (specUnpackP_any _ _).mono ?_
  rintro e w22 ⟨rfl, d21⟩
  have q23 := q18.below d21
  have S24 := S19.below d21
  have y25 := y20.below d21
  clear g0 g1 g2 g3 g4 g5 g6 g7 g8 g9 g10 f0
  clear q18 S19 d21 y20
  obtain ⟨g0, g1, g2, g3, g4, g5, g6, g7, g8, g9, g10, f0⟩ := eleven q23
  have q26 : BoxN (set6 w22 w.heap.size (.bool (hasB (z3 : Int) 128)) (.bool (hasB (z3 : Int) 64)) (.bool (hasB (z3 : Int) 8)) (.bool (hasB (z3 : Int) 4)) (.bool (hasB (z3 : Int) 2)) (.bool (hasB (z3 : Int) 1))) w.heap.size 28 #[.int .u8 (c.A : Int), .int .u8 (c.X : Int), .int .u8 (c.Y : Int), .int .u8 (c.S : Int), .int .u16 (c.PC : Int), .bool (hasB (z3 : Int) 128), .bool (hasB (z3 : Int) 64), .bool (hasB (z3 : Int) 8), .bool (hasB (z3 : Int) 4), .bool (hasB (z3 : Int) 2), .bool (hasB (z3 : Int) 1)] := six_set q23 (.bool (hasB (z3 : Int) 128)) (.bool (hasB (z3 : Int) 64)) (.bool (hasB (z3 : Int) 8)) (.bool (hasB (z3 : Int) 4)) (.bool (hasB (z3 : Int) 2)) (.bool (hasB (z3 : Int) 1))
  have S27 : Sit F w 2 B (set6 w22 w.heap.size (.bool (hasB (z3 : Int) 128)) (.bool (hasB (z3 : Int) 64)) (.bool (hasB (z3 : Int) 8)) (.bool (hasB (z3 : Int) 4)) (.bool (hasB (z3 : Int) 2)) (.bool (hasB (z3 : Int) 1))) b3 := S24.six (.bool (hasB (z3 : Int) 128)) (.bool (hasB (z3 : Int) 64)) (.bool (hasB (z3 : Int) 8)) (.bool (hasB (z3 : Int) 4)) (.bool (hasB (z3 : Int) 2)) (.bool (hasB (z3 : Int) 1)) (Nat.le_refl _) (by omega)
  have y28 : BoxN (set6 w22 w.heap.size (.bool (hasB (z3 : Int) 128)) (.bool (hasB (z3 : Int) 64)) (.bool (hasB (z3 : Int) 8)) (.bool (hasB (z3 : Int) 4)) (.bool (hasB (z3 : Int) 2)) (.bool (hasB (z3 : Int) 1))) (w.heap.size + 1) 28 zeroCpu := six_other y25 (by omega) (.bool (hasB (z3 : Int) 128)) (.bool (hasB (z3 : Int) 64)) (.bool (hasB (z3 : Int) 8)) (.bool (hasB (z3 : Int) 4)) (.bool (hasB (z3 : Int) 2)) (.bool (hasB (z3 : Int) 1))
  clear q23 S24 y25
  go_wp2_with fail
  refine (stack_at _ (c.S + 2) (by omega) (by omega) (by omega) Hs2.out _).mono ?_
  rintro e w29 ⟨rfl, rfl⟩
  go_wp2_with fail
  refine (S27.rd _ (s2) rfl (by omega) (Fb3.mono (by omega)) Hz4.out Hb4.out).mono ?_
  rintro e w31 ⟨rfl, t30⟩
  have q32 := t30.box _ _ _ (Nat.le_refl _) (by omega) q26
  have y34 := t30.box _ _ _ (by omega) (by omega) y28
  have S33 := t30.sit
  have z4b : z4 < 256 := by rw [← Hz4.out]; exact S27.bus.byte _
  clear g0 g1 g2 g3 g4 g5 g6 g7 g8 g9 g10 f0
  clear q26 S27 t30 y28
  obtain ⟨g0, g1, g2, g3, g4, g5, g6, g7, g8, g9, g10, f0⟩ := eleven q32
  go_wp2_with fail
  refine (stack_at _ (c.S + 3) (by omega) (by omega) (by omega) Hs3.out _).mono ?_
  rintro e w35 ⟨rfl, rfl⟩
  go_wp2_with fail
  refine (S33.rd _ (s3) rfl (by omega) (Fb4.mono (by omega)) Hz5.out Hb5.out).mono ?_
  rintro e w37 ⟨rfl, t36⟩
  have q38 := t36.box _ _ _ (Nat.le_refl _) (by omega) q32
  have y40 := t36.box _ _ _ (by omega) (by omega) y34
  have S39 := t36.sit
  have z5b : z5 < 256 := by rw [← Hz5.out]; exact S33.bus.byte _
  clear g0 g1 g2 g3 g4 g5 g6 g7 g8 g9 g10 f0
  clear q32 S33 t36 y34
  obtain ⟨g0, g1, g2, g3, g4, g5, g6, g7, g8, g9, g10, f0⟩ := eleven q38
  obtain ⟨h0, h1, h2, h3, h4, h5, h6, h7, h8, h9, h10, f1⟩ := eleven y40
  go_wp2_with fail
  refine (word_at z4 z5 z4b z5b Hu.out _).mono ?_
  rintro e w41 ⟨rfl, rfl⟩
  have ub : u < 65536 := by rw [← Hu.out]; unfold word; omega
  have hS3 : IntKind.u8.wrap ((c.S : Int) + 3) = ((s4 : Nat) : Int) := by rw [u8_of]; have := Hs4.out; omega
  have HS := Lib.hid S39
  clear S39 q38 y40
  go_wp2
  refine bodyPost_ret (v := cpuV ({ c with PC := u, S := s4, N := hasB z3 128, V := hasB z3 64, D := hasB z3 8, I := hasB z3 4, Z := hasB z3 2, C := hasB z3 1 })) (by simp [results, Try.results76, go_sem, g0, g1, g2, g3, g4, g5, g6, g7, g8, g9, g10, h0, h1, h2, h3, h4, h5, h6, h7, h8, h9, h10, hS3]) rfl ⟨rfl, ?_⟩
  refine Sit.out (k := 2) ?_
  repeat (any_goals (first | (with_reducible exact HS.out) | (with_reducible refine Sit.drew ?_) | (with_reducible refine Sit.set ?_ _ ?_ ?_)))
  all_goals (first | (with_reducible exact Nat.le_refl _) | omega | (simp; done))

set_option maxRecDepth 100000 in
theorem go_brk (F : Nat → Prop) (B : Nat) (b : BusN) (c : CpuN) (hc : c.ok) (hf : b.fit 10) (w : World) (hF : ∀ i, w.heap.size ≤ i → F i) (h : BusAt w F B b) :
    Calls Try.prog 76 #[.pointer (some ⟨B, 0, none⟩), cpuV c, .string ⟨#[66, 82, 75]⟩, .int .i64 0] w fun e w' => e = .returned (cpuV (goN b c [66, 82, 75] 0).1) ∧ BusAt w' F B (goN b c [66, 82, 75] 0).2 ∧ Turn F w w' := by
  have hc' := hc
  obtain ⟨hA, hX, hY, hS, hP⟩ := hc
  have wS : IntKind.i64.wrap (c.S : Int) = (c.S : Int) := IntWalk.i64_in _ (by omega)
  have wP : IntKind.i64.wrap (c.PC : Int) = (c.PC : Int) := IntWalk.i64_in _ (by omega)
  obtain ⟨z1, hz1⟩ : ∃ r_, b.get (c.PC + 1) = r_ := ⟨_, rfl⟩
  obtain ⟨b1, hb1⟩ : ∃ r_, b.rd (c.PC + 1) = r_ := ⟨_, rfl⟩
  have Fb1 : b1.fit 11 := by rw [← hb1]; exact hf.rd
  obtain ⟨k, hk⟩ : ∃ r_, (c.PC + 2) % 65536 = r_ := ⟨_, rfl⟩
  have kb : k < 65536 := by omega
  obtain ⟨r, hr⟩ : ∃ r_, pushN b1 c k true 65534 = r_ := ⟨_, rfl⟩
  have HP : goN b c [66, 82, 75] 0 = (r.1, r.2) := by 
    simp [goN, hz1, hb1, hk, hr]
  rw [HP]
  dsimp only
  have S0 := Sit.two h hF (.cells (cpuCells c) 28) (.cells zeroCpu 28)
  have q0 : BoxN ((w.alloc (.cells (cpuCells c) 28)).alloc (.cells zeroCpu 28)) w.heap.size 28 (cpuCells c) := (BoxN.new _ _ _).below ((Below.refl _ _).alloc (Nat.le_refl _) _)
  have y0 : BoxN ((w.alloc (.cells (cpuCells c) 28)).alloc (.cells zeroCpu 28)) (w.heap.size + 1) 28 zeroCpu := by
    have := BoxN.new (w.alloc (.cells (cpuCells c) 28)) 28 zeroCpu
    rwa [World.size_alloc] at this
  have Hz1 := Lib.hid hz1
  have Hb1 := Lib.hid hb1
  have Hk := Lib.hid hk
  have Hr := Lib.hid hr
  clear HP hz1 hb1 hk hr
  go_enter Try.func76, Try.ntmps76
  go_wp2_with fail
  go_region_held3 (fun w' => w'.cell? ⟨w.heap.size, 4, none⟩ = some (.int .u16 (c.PC : Int)) ∧ w'.cell? ⟨w.heap.size, 3, none⟩ = some (.int .u8 (c.S : Int)))
    (((try dsimp only); (first | (exact ⟨q0.cell 4 _ rfl, q0.cell 3 _ rfl⟩))))
    (first | fail)
  have q1 := q0.drew
  have S2 := S0.drew
  have y3 := y0.drew
  clear q0 S0 y0
  clear wP wS
  go_wp2_with fail
  refine (S2.rd _ (c.PC + 1) (by omega) (by omega) (hf.mono (by omega)) Hz1.out Hb1.out).mono ?_
  rintro e w5 ⟨rfl, t4⟩
  have q6 := t4.box _ _ _ (Nat.le_refl _) (by omega) q1
  have y8 := t4.box _ _ _ (by omega) (by omega) y3
  have S7 := t4.sit
  have z1b : z1 < 256 := by rw [← Hz1.out]; exact S2.bus.byte _
  clear q1 S2 t4 y3
  obtain ⟨g0, g1, g2, g3, g4, g5, g6, g7, g8, g9, g10, f0⟩ := eleven q6
  have hK : bits .and .i64 ((c.PC : Int) + 2) 65535 = (k : Int) := by have := and16 (c.PC + 2) k (by omega) Hk.out; rw [Int.natCast_add] at this; exact this
  go_wp2_with fail
  refine (push_at _ B b1 c hc' k kb true 65534 (by omega) (Fb1.mono (by omega)) _ S7.hF S7.bus _ _ (by first | rfl | exact hK) rfl Hr.out).mono ?_
  rintro e w10 ⟨rfl, hB_, hT_⟩
  have t9 := S7.went hB_ hT_
  have q11 := t9.box _ _ _ (Nat.le_refl _) (by omega) q6
  have y13 := t9.box _ _ _ (by omega) (by omega) y8
  have S12 := t9.sit
  clear g0 g1 g2 g3 g4 g5 g6 g7 g8 g9 g10 f0
  clear hB_ hT_ q6 S7 t9 y8
  clear hK
  obtain ⟨g0, g1, g2, g3, g4, g5, g6, g7, g8, g9, g10, f0⟩ := eleven q11
  obtain ⟨h0, h1, h2, h3, h4, h5, h6, h7, h8, h9, h10, f1⟩ := eleven y13
  have HS := Lib.hid S12
  clear S12 q11 y13
  go_wp2
  refine bodyPost_ret (v := cpuV (r.1)) (by simp [results, Try.results76, go_sem, g0, g1, g2, g3, g4, g5, g6, g7, g8, g9, g10, h0, h1, h2, h3, h4, h5, h6, h7, h8, h9, h10]) rfl ⟨rfl, ?_⟩
  refine Sit.out (k := 2) ?_
  repeat (any_goals (first | (with_reducible exact HS.out) | (with_reducible refine Sit.drew ?_) | (with_reducible refine Sit.set ?_ _ ?_ ?_)))
  all_goals (first | (with_reducible exact Nat.le_refl _) | omega | (simp; done))

set_option maxRecDepth 100000 in
theorem go_hold (F : Nat → Prop) (B : Nat) (b : BusN) (c : CpuN) (hc : c.ok) (i : Nat) (hi : i ∈ [33, 34, 35, 36]) (hf : b.fit 10) (w : World) (hF : ∀ i, w.heap.size ≤ i → F i) (h : BusAt w F B b) :
    Calls Try.prog 76 #[.pointer (some ⟨B, 0, none⟩), cpuV c, .string (opTx i), .int .i64 0] w fun e w' => e = .returned (cpuV (goN b c (opTx i).toList 0).1) ∧ BusAt w' F B (goN b c (opTx i).toList 0).2 ∧ Turn F w w' := by
  have hc' := hc
  obtain ⟨hA, hX, hY, hS, hP⟩ := hc
  have hne : (opTx i).toList ≠ [74, 77, 80] ∧ (opTx i).toList ≠ [74, 83, 82] ∧ (opTx i).toList ≠ [82, 84, 83] ∧ (opTx i).toList ≠ [82, 84, 73] ∧ (opTx i).toList ≠ [66, 82, 75] := by
    have hi2 := hi
    simp only [List.mem_cons, List.not_mem_nil, or_false] at hi2
    rcases hi2 with rfl | rfl | rfl | rfl <;> (rw [ByteArray.toList_eq]; decide)
  obtain ⟨n1, n2, n3, n4, n5⟩ := hne
  have t1 : ((opTx i).toList == [74, 77, 80]) = false := by simpa using n1
  have t2 : ((opTx i).toList == [74, 83, 82]) = false := by simpa using n2
  have t3 : ((opTx i).toList == [82, 84, 83]) = false := by simpa using n3
  have t4 : ((opTx i).toList == [82, 84, 73]) = false := by simpa using n4
  have t5 : ((opTx i).toList == [66, 82, 75]) = false := by simpa using n5
  have wS : IntKind.i64.wrap (c.S : Int) = (c.S : Int) := IntWalk.i64_in _ (by omega)
  have wP : IntKind.i64.wrap (c.PC : Int) = (c.PC : Int) := IntWalk.i64_in _ (by omega)
  obtain ⟨z1, hz1⟩ : ∃ r_, b.get (c.PC + 1) = r_ := ⟨_, rfl⟩
  obtain ⟨b1, hb1⟩ : ∃ r_, b.rd (c.PC + 1) = r_ := ⟨_, rfl⟩
  have Fb1 : b1.fit 11 := by rw [← hb1]; exact hf.rd
  obtain ⟨r, hr⟩ : ∃ r_, holdN b1 c (opTx i).toList = r_ := ⟨_, rfl⟩
  have HP : goN b c (opTx i).toList 0 = (r.1, r.2) := by 
    simp [goN, hz1, hb1, hr, n1, n2, n3, n4, n5]
  rw [HP]
  dsimp only
  have S0 := Sit.two h hF (.cells (cpuCells c) 28) (.cells zeroCpu 28)
  have q0 : BoxN ((w.alloc (.cells (cpuCells c) 28)).alloc (.cells zeroCpu 28)) w.heap.size 28 (cpuCells c) := (BoxN.new _ _ _).below ((Below.refl _ _).alloc (Nat.le_refl _) _)
  have y0 : BoxN ((w.alloc (.cells (cpuCells c) 28)).alloc (.cells zeroCpu 28)) (w.heap.size + 1) 28 zeroCpu := by
    have := BoxN.new (w.alloc (.cells (cpuCells c) 28)) 28 zeroCpu
    rwa [World.size_alloc] at this
  have Hz1 := Lib.hid hz1
  have Hb1 := Lib.hid hb1
  have Hr := Lib.hid hr
  clear HP hz1 hb1 hr
  go_enter Try.func76, Try.ntmps76
  go_wp2_with fail
  go_region_held3 (fun w' => w'.cell? ⟨w.heap.size, 4, none⟩ = some (.int .u16 (c.PC : Int)) ∧ w'.cell? ⟨w.heap.size, 3, none⟩ = some (.int .u8 (c.S : Int)))
    (((try dsimp only); (first | (exact ⟨q0.cell 4 _ rfl, q0.cell 3 _ rfl⟩))))
    (first | fail)
  have q1 := q0.drew
  have S2 := S0.drew
  have y3 := y0.drew
  clear q0 S0 y0
  clear wP wS
  go_wp2_with fail
  refine (S2.rd _ (c.PC + 1) (by omega) (by omega) (hf.mono (by omega)) Hz1.out Hb1.out).mono ?_
  rintro e w5 ⟨rfl, t4⟩
  have q6 := t4.box _ _ _ (Nat.le_refl _) (by omega) q1
  have y8 := t4.box _ _ _ (by omega) (by omega) y3
  have S7 := t4.sit
  have z1b : z1 < 256 := by rw [← Hz1.out]; exact S2.bus.byte _
  clear q1 S2 t4 y3
  obtain ⟨g0, g1, g2, g3, g4, g5, g6, g7, g8, g9, g10, f0⟩ := eleven q6
  go_wp2_with fail
  refine (hold_any _ B b1 c hc' i hi (Fb1.mono (by omega)) _ S7.hF S7.bus Hr.out).mono ?_
  rintro e w10 ⟨rfl, hB_, hT_⟩
  have t9 := S7.went hB_ hT_
  have q11 := t9.box _ _ _ (Nat.le_refl _) (by omega) q6
  have y13 := t9.box _ _ _ (by omega) (by omega) y8
  have S12 := t9.sit
  clear g0 g1 g2 g3 g4 g5 g6 g7 g8 g9 g10 f0
  clear hB_ hT_ q6 S7 t9 y8
  obtain ⟨g0, g1, g2, g3, g4, g5, g6, g7, g8, g9, g10, f0⟩ := eleven q11
  obtain ⟨h0, h1, h2, h3, h4, h5, h6, h7, h8, h9, h10, f1⟩ := eleven y13
  clear n1 n2 n3 n4 n5
  have HS := Lib.hid S12
  clear S12 q11 y13
  go_wp2
  refine bodyPost_ret (v := cpuV (r.1)) (by simp [results, Try.results76, go_sem, g0, g1, g2, g3, g4, g5, g6, g7, g8, g9, g10, h0, h1, h2, h3, h4, h5, h6, h7, h8, h9, h10]) rfl ⟨rfl, ?_⟩
  refine Sit.out (k := 2) ?_
  repeat (any_goals (first | (with_reducible exact HS.out) | (with_reducible refine Sit.drew ?_) | (with_reducible refine Sit.set ?_ _ ?_ ?_)))
  all_goals (first | (with_reducible exact Nat.le_refl _) | omega | (simp; done))

theorem go_any (F : Nat → Prop) (B : Nat) (b : BusN) (c : CpuN) (hc : c.ok) (i : Nat) (m : Int) (hi : i = 32 ∧ (m = 6 ∨ m = 9) ∨ i = 28 ∧ m = 6 ∨ m = 0 ∧ (i = 30 ∨ i = 29 ∨ i = 27 ∨ i ∈ [33, 34, 35, 36])) (hf : b.fit 10) (w : World) (hF : ∀ i, w.heap.size ≤ i → F i) (h : BusAt w F B b) {r : CpuN × BusN} (hr : goN b c (opTx i).toList m = r) :
    Calls Try.prog 76 #[.pointer (some ⟨B, 0, none⟩), cpuV c, .string (opTx i), .int .i64 m] w fun e w' => e = .returned (cpuV r.1) ∧ BusAt w' F B r.2 ∧ Turn F w w' := by
  subst hr
  rcases hi with ⟨rfl, rfl | rfl⟩ | ⟨rfl, rfl⟩ | ⟨rfl, rfl | rfl | rfl | hi⟩
  · rw [show (opTx 32).toList = [74, 77, 80] by rw [ByteArray.toList_eq]; rfl]; exact go_jmp F B b c hc hf w hF h
  · rw [show (opTx 32).toList = [74, 77, 80] by rw [ByteArray.toList_eq]; rfl]; exact go_ind F B b c hc hf w hF h
  · rw [show (opTx 28).toList = [74, 83, 82] by rw [ByteArray.toList_eq]; rfl]; exact go_jsr F B b c hc hf w hF h
  · rw [show (opTx 30).toList = [82, 84, 83] by rw [ByteArray.toList_eq]; rfl]; exact go_rts F B b c hc hf w hF h
  · rw [show (opTx 29).toList = [82, 84, 73] by rw [ByteArray.toList_eq]; rfl]; exact go_rti F B b c hc hf w hF h
  · rw [show (opTx 27).toList = [66, 82, 75] by rw [ByteArray.toList_eq]; rfl]; exact go_brk F B b c hc hf w hF h
  · exact go_hold F B b c hc i hi hf w hF h

end Go.Proofs.Ytckfdbjjjgfbfaa
