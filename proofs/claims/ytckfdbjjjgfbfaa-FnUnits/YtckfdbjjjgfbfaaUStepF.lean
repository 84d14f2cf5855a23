/-
  Contracts over the program: the model's branch (l06Branch), what is pushed and pulled (l06Push, l06Hold).
-/
import Derived.Test.YtckfdbjjjgfbfaaUStepE
import Derived.Deep.RegionHeld3
namespace Go.Proofs.Ytckfdbjjjgfbfaa
set_option linter.unusedVariables false
set_option linter.unusedSimpArgs false
open Go.RowKit

def offI (d : Nat) : Int := if 128 ≤ d then (d : Int) - 256 else d

set_option maxRecDepth 100000 in
theorem off_any (d : Nat) (hd : d < 256) (w : World) :
    Calls Try.prog 86 #[.int .u8 d] w fun e w' => e = .returned (.int .i64 (offI d)) ∧ w = w' := by
  by_cases h : 128 ≤ d
  · have e : offI d = (d : Int) - 256 := if_pos h
    rw [e]
    clear e
    go_enter Try.func86, Try.ntmps86
    go_wp2
    go_ret
    exact ⟨rfl, rfl⟩
  · have e : offI d = (d : Int) := if_neg h
    rw [e]
    clear e
    go_enter Try.func86, Try.ntmps86
    go_wp2
    go_ret
    exact ⟨rfl, rfl⟩

theorem off_at (d : Nat) (hd : d < 256) {o : Int} (ho : offI d = o) (w : World) :
    Calls Try.prog 86 #[.int .u8 d] w fun e w' => e = .returned (.int .i64 o) ∧ w = w' := by
  subst ho
  exact off_any d hd w

theorem and_off (p d t : Nat) {o : Int} (ho : offI d = o) (hp : p < 65536) (hd : d < 256) (ht : (p + offN d) % 65536 = t) : bits .and .i64 ((p : Int) + o) 65535 = (t : Int) := by
  have h := and_i64_any ((p : Int) + o) 16 (by omega)
  simp at h
  rw [h]
  subst ho
  unfold offI
  unfold offN at ht
  split <;> rename_i hh
  · rw [if_pos hh] at ht
    omega
  · rw [if_neg hh] at ht
    omega

theorem page_off (p t v : Nat) {x : Int} (hp : p < 65536) (hx : x = (t : Int)) (ht : t < 65536) (hv : p / 256 * 256 + t % 256 = v) : wrap64 ((p : Int) / 256 * 256 + x.tmod 256) = (v : Int) := by
  subst hx
  rw [← hv]
  have h1 : (t : Int).tmod 256 = ((t % 256 : Nat) : Int) := by rw [Int.tmod_eq_emod_of_nonneg (by omega)]; omega
  rw [h1]
  rw [IntWalk.wrap64_in _ (by omega)]
  omega

theorem holds_at (i : Nat) (hi : i ∈ [41, 42, 43, 44, 45, 46, 47, 48]) (c : CpuN) {r : Bool} (hr : holdsL c (opTx i).toList = r) (w : World) :
    Calls Try.prog 85 #[.agg #[.bool c.N, .bool c.V, .bool c.D, .bool c.I, .bool c.Z, .bool c.C], .string (opTx i)] w fun e w' => e = .returned (.bool r) ∧ Below w.heap.size w w' := by
  subst hr
  exact holds_any i hi c w

theorem packP_at (n v d i z c brk : Bool) {x : Nat} (hx : pkV n v brk d i z c = (x : Int)) (w : World) :
    Calls Try.prog 80 #[.agg #[.bool n, .bool v, .bool d, .bool i, .bool z, .bool c], .bool brk] w fun e w' => e = .returned (.int .u8 (x : Nat)) ∧ Below w.heap.size w w' := by
  rw [← hx]
  exact specPackP_any n v d i z c brk w

theorem flagsAt {W : World} {B : Nat} {t : TypeId} {a0 a1 a2 a3 a4 a5 a6 a7 a8 a9 a10 : Value} (h : BoxN W B t #[a0, a1, a2, a3, a4, a5, a6, a7, a8, a9, a10]) :
    W.cell? ⟨B, 5, none⟩ = some a5 ∧ W.cell? ⟨B, 6, none⟩ = some a6 ∧ W.cell? ⟨B, 7, none⟩ = some a7 ∧ W.cell? ⟨B, 8, none⟩ = some a8 ∧ W.cell? ⟨B, 9, none⟩ = some a9 ∧ W.cell? ⟨B, 10, none⟩ = some a10 :=
  ⟨h.cell 5 _ rfl, h.cell 6 _ rfl, h.cell 7 _ rfl, h.cell 8 _ rfl, h.cell 9 _ rfl, h.cell 10 _ rfl⟩

theorem stack_at (x : Int) (a : Nat) (hx : x % 256 = ((a % 256 : Nat) : Int)) (h0 : -1000 ≤ x) (h1 : x ≤ 1000) {s : Nat} (hs : stk a = s) (w : World) :
    Calls Try.prog 79 #[.int .i64 x] w fun e w' => e = .returned (.int .i64 (s : Nat)) ∧ w = w' := by
  subst hs
  exact stack_any x a hx h0 h1 w

theorem and8_quo (p e : Nat) (he : p / 256 % 256 = e) : bits .and .i64 ((p : Int) / 256) 255 = (e : Int) := by
  rw [and255_i64]
  omega

theorem Sit.drew {F : Nat → Prop} {w W : World} {k B : Nat} {b : BusN} (s : Sit F w k B W b) : Sit F w k B W.drew b := s.below (Below.refl _ _).drew

/-- A branch that is taken stays in its page. -/
def tCase (b : BusN) (c : CpuN) : Prop := (c.PC + 2) % 65536 / 256 * 256 + ((c.PC + 2) % 65536 + offN (b.get (c.PC + 1))) % 65536 % 256 = ((c.PC + 2) % 65536 + offN (b.get (c.PC + 1))) % 65536

set_option maxRecDepth 100000 in
theorem branch_no (F : Nat → Prop) (B : Nat) (b : BusN) (c : CpuN) (hc : c.ok) (i : Nat) (hi : i ∈ [41, 42, 43, 44, 45, 46, 47, 48]) (hh : holdsL c (opTx i).toList = false) (hf : b.fit 20) (w : World) (hF : ∀ i, w.heap.size ≤ i → F i) (h : BusAt w F B b) :
    Calls Try.prog 74 #[.pointer (some ⟨B, 0, none⟩), cpuV c, .string (opTx i)] w fun e w' => e = .returned (cpuV (branchN b c (opTx i).toList).1) ∧ BusAt w' F B (branchN b c (opTx i).toList).2 ∧ Turn F w w' := by
  have hc' := hc
  obtain ⟨hA, hX, hY, hS, hP⟩ := hc
  have Hh := Lib.hid hh
  obtain ⟨p, hp⟩ : ∃ r_, (c.PC + 2) % 65536 = r_ := ⟨_, rfl⟩
  have pb : p < 65536 := by omega
  obtain ⟨z1, hz1⟩ : ∃ r_, b.get (c.PC + 1) = r_ := ⟨_, rfl⟩
  obtain ⟨b1, hb1⟩ : ∃ r_, b.rd (c.PC + 1) = r_ := ⟨_, rfl⟩
  have Fb1 : b1.fit 21 := by rw [← hb1]; exact hf.rd
  have HP : branchN b c (opTx i).toList = ({ c with PC := p }, b1) := by 
    simp [branchN, hp, hz1, hb1, hh]
  rw [HP]
  dsimp only
  have S0 := Sit.two h hF (.cells (cpuCells c) 28) (.cells zeroCpu 28)
  have q0 : BoxN ((w.alloc (.cells (cpuCells c) 28)).alloc (.cells zeroCpu 28)) w.heap.size 28 (cpuCells c) := (BoxN.new _ _ _).below ((Below.refl _ _).alloc (Nat.le_refl _) _)
  have y0 : BoxN ((w.alloc (.cells (cpuCells c) 28)).alloc (.cells zeroCpu 28)) (w.heap.size + 1) 28 zeroCpu := by
    have := BoxN.new (w.alloc (.cells (cpuCells c) 28)) 28 zeroCpu
    rwa [World.size_alloc] at this
  have Hp := Lib.hid hp
  have Hz1 := Lib.hid hz1
  have Hb1 := Lib.hid hb1
  clear HP hp hz1 hb1
  go_enter Try.func74, Try.ntmps74
  go_wp2_with fail
  refine (S0.rd _ (c.PC + 1) (by omega) (by omega) (hf.mono (by omega)) Hz1.out Hb1.out).mono ?_
  rintro e w2 ⟨rfl, t1⟩
  have q3 := t1.box _ _ _ (Nat.le_refl _) (by omega) q0
  have y5 := t1.box _ _ _ (by omega) (by omega) y0
  have S4 := t1.sit
  have z1b : z1 < 256 := by rw [← Hz1.out]; exact S0.bus.byte _
  clear q0 S0 t1 y0
  obtain ⟨g0, g1, g2, g3, g4, g5, g6, g7, g8, g9, g10, f0⟩ := eleven q3
  have hp2 : IntKind.u16.wrap ((c.PC : Int) + 2) = ((p : Nat) : Int) := by rw [u16_of]; have := Hp.out; omega
  have q6 : BoxN (w2.setCell ⟨w.heap.size, 4, none⟩ (.int .u16 (p : Int))) w.heap.size 28 #[.int .u8 (c.A : Int), .int .u8 (c.X : Int), .int .u8 (c.Y : Int), .int .u8 (c.S : Int), .int .u16 (p : Int), .bool c.N, .bool c.V, .bool c.D, .bool c.I, .bool c.Z, .bool c.C] := q3.set 4 (.int .u16 (p : Int))
  have S7 : Sit F w 2 B (w2.setCell ⟨w.heap.size, 4, none⟩ (.int .u16 (p : Int))) b1 := S4.set (.int .u16 (p : Int)) (Nat.le_refl _) (by omega)
  have y8 := y5.span (Span.set w2 w.heap.size 4 (.int .u16 (p : Int))) (by omega)
  clear q3 S4 y5
  go_wp2_with fail
  refine (holds_at i hi c Hh.out _).mono ?_
  rintro e w10 ⟨rfl, d9⟩
  have q11 := q6.below d9
  have S12 := S7.below d9
  have y13 := y8.below d9
  clear g0 g1 g2 g3 g4 g5 g6 g7 g8 g9 g10 f0
  clear q6 S7 d9 y8
  obtain ⟨g0, g1, g2, g3, g4, g5, g6, g7, g8, g9, g10, f0⟩ := eleven q11
  obtain ⟨h0, h1, h2, h3, h4, h5, h6, h7, h8, h9, h10, f1⟩ := eleven y13
  clear hp2
  have HS := Lib.hid S12
  clear S12 q11 y13
  go_wp2
  refine bodyPost_ret (v := cpuV ({ c with PC := p })) (by simp [results, Try.results74, go_sem, g0, g1, g2, g3, g4, g5, g6, g7, g8, g9, g10, h0, h1, h2, h3, h4, h5, h6, h7, h8, h9, h10]) rfl ⟨rfl, ?_⟩
  refine Sit.out (k := 2) ?_
  repeat (any_goals (first | (with_reducible exact HS.out) | (with_reducible refine Sit.drew ?_) | (with_reducible refine Sit.set ?_ _ ?_ ?_)))
  all_goals (first | (with_reducible exact Nat.le_refl _) | omega | (simp; done))

set_option maxRecDepth 100000 in
theorem branch_same (F : Nat → Prop) (B : Nat) (b : BusN) (c : CpuN) (hc : c.ok) (i : Nat) (hi : i ∈ [41, 42, 43, 44, 45, 46, 47, 48]) (hh : holdsL c (opTx i).toList = true) (hcase : tCase b c) (hf : b.fit 20) (w : World) (hF : ∀ i, w.heap.size ≤ i → F i) (h : BusAt w F B b) :
    Calls Try.prog 74 #[.pointer (some ⟨B, 0, none⟩), cpuV c, .string (opTx i)] w fun e w' => e = .returned (cpuV (branchN b c (opTx i).toList).1) ∧ BusAt w' F B (branchN b c (opTx i).toList).2 ∧ Turn F w w' := by
  have hc' := hc
  obtain ⟨hA, hX, hY, hS, hP⟩ := hc
  have Hh := Lib.hid hh
  obtain ⟨p, hp⟩ : ∃ r_, (c.PC + 2) % 65536 = r_ := ⟨_, rfl⟩
  have pb : p < 65536 := by omega
  obtain ⟨z1, hz1⟩ : ∃ r_, b.get (c.PC + 1) = r_ := ⟨_, rfl⟩
  obtain ⟨b1, hb1⟩ : ∃ r_, b.rd (c.PC + 1) = r_ := ⟨_, rfl⟩
  have Fb1 : b1.fit 21 := by rw [← hb1]; exact hf.rd
  obtain ⟨z2, hz2⟩ : ∃ r_, b1.get (p) = r_ := ⟨_, rfl⟩
  obtain ⟨b2, hb2⟩ : ∃ r_, b1.rd (p) = r_ := ⟨_, rfl⟩
  have Fb2 : b2.fit 22 := by rw [← hb2]; exact Fb1.rd
  obtain ⟨o, ho⟩ : ∃ r_, offI z1 = r_ := ⟨_, rfl⟩
  obtain ⟨t, ht⟩ : ∃ r_, (p + offN z1) % 65536 = r_ := ⟨_, rfl⟩
  have tb : t < 65536 := by omega
  obtain ⟨v, hv⟩ : ∃ r_, p / 256 * 256 + t % 256 = r_ := ⟨_, rfl⟩
  have hne : v = t := by
    have := hcase
    simp only [tCase, hp, hz1, hb1, hz2, hb2, ho, ht, hv] at this
    simpa using this
  have HP : branchN b c (opTx i).toList = ({ c with PC := t }, b2) := by 
    simp [branchN, hp, hz1, hb1, hz2, hb2, ho, ht, hv, hh, hne]
  rw [HP]
  dsimp only
  have S0 := Sit.two h hF (.cells (cpuCells c) 28) (.cells zeroCpu 28)
  have q0 : BoxN ((w.alloc (.cells (cpuCells c) 28)).alloc (.cells zeroCpu 28)) w.heap.size 28 (cpuCells c) := (BoxN.new _ _ _).below ((Below.refl _ _).alloc (Nat.le_refl _) _)
  have y0 : BoxN ((w.alloc (.cells (cpuCells c) 28)).alloc (.cells zeroCpu 28)) (w.heap.size + 1) 28 zeroCpu := by
    have := BoxN.new (w.alloc (.cells (cpuCells c) 28)) 28 zeroCpu
    rwa [World.size_alloc] at this
  have Hp := Lib.hid hp
  have Hz1 := Lib.hid hz1
  have Hb1 := Lib.hid hb1
  have Hz2 := Lib.hid hz2
  have Hb2 := Lib.hid hb2
  have Ho := Lib.hid ho
  have Ht := Lib.hid ht
  have Hv := Lib.hid hv
  clear HP hp hz1 hb1 hz2 hb2 ho ht hv
  go_enter Try.func74, Try.ntmps74
  go_wp2_with fail
  refine (S0.rd _ (c.PC + 1) (by omega) (by omega) (hf.mono (by omega)) Hz1.out Hb1.out).mono ?_
  rintro e w2 ⟨rfl, t1⟩
  have q3 := t1.box _ _ _ (Nat.le_refl _) (by omega) q0
  have y5 := t1.box _ _ _ (by omega) (by omega) y0
  have S4 := t1.sit
  have z1b : z1 < 256 := by rw [← Hz1.out]; exact S0.bus.byte _
  clear q0 S0 t1 y0
  obtain ⟨g0, g1, g2, g3, g4, g5, g6, g7, g8, g9, g10, f0⟩ := eleven q3
  have hp2 : IntKind.u16.wrap ((c.PC : Int) + 2) = ((p : Nat) : Int) := by rw [u16_of]; have := Hp.out; omega
  have q6 : BoxN (w2.setCell ⟨w.heap.size, 4, none⟩ (.int .u16 (p : Int))) w.heap.size 28 #[.int .u8 (c.A : Int), .int .u8 (c.X : Int), .int .u8 (c.Y : Int), .int .u8 (c.S : Int), .int .u16 (p : Int), .bool c.N, .bool c.V, .bool c.D, .bool c.I, .bool c.Z, .bool c.C] := q3.set 4 (.int .u16 (p : Int))
  have S7 : Sit F w 2 B (w2.setCell ⟨w.heap.size, 4, none⟩ (.int .u16 (p : Int))) b1 := S4.set (.int .u16 (p : Int)) (Nat.le_refl _) (by omega)
  have y8 := y5.span (Span.set w2 w.heap.size 4 (.int .u16 (p : Int))) (by omega)
  clear q3 S4 y5
  go_wp2_with fail
  refine (holds_at i hi c Hh.out _).mono ?_
  rintro e w10 ⟨rfl, d9⟩
  have q11 := q6.below d9
  have S12 := S7.below d9
  have y13 := y8.below d9
  clear g0 g1 g2 g3 g4 g5 g6 g7 g8 g9 g10 f0
  clear q6 S7 d9 y8
  obtain ⟨g0, g1, g2, g3, g4, g5, g6, g7, g8, g9, g10, f0⟩ := eleven q11
  obtain ⟨h0, h1, h2, h3, h4, h5, h6, h7, h8, h9, h10, f1⟩ := eleven y13
  clear hp2
  go_wp2_with fail
  refine (S12.rd _ (p) (by omega) (by omega) (Fb1.mono (by omega)) Hz2.out Hb2.out).mono ?_
  rintro e w15 ⟨rfl, t14⟩
  have q16 := t14.box _ _ _ (Nat.le_refl _) (by omega) q11
  have y18 := t14.box _ _ _ (by omega) (by omega) y13
  have S17 := t14.sit
  have z2b : z2 < 256 := by rw [← Hz2.out]; exact S12.bus.byte _
  clear g0 g1 g2 g3 g4 g5 g6 g7 g8 g9 g10 f0 h0 h1 h2 h3 h4 h5 h6 h7 h8 h9 h10 f1
  clear q11 S12 t14 y13
  obtain ⟨g0, g1, g2, g3, g4, g5, g6, g7, g8, g9, g10, f0⟩ := eleven q16
  obtain ⟨h0, h1, h2, h3, h4, h5, h6, h7, h8, h9, h10, f1⟩ := eleven y18
  go_wp2_with fail
  refine (off_at z1 z1b Ho.out _).mono ?_
  rintro e w19 ⟨rfl, rfl⟩
  have HE := Lib.hid (and_off p z1 t Ho.out pb z1b Ht.out)
  have HV := Lib.hid (page_off p t v pb HE.out tb Hv.out)
  have ob : -128 ≤ o ∧ o ≤ 127 := by have := Ho.out; unfold offI at this; split at this <;> omega
  have hT : (wrap64 ((p : Int) / 256 * 256 + (bits .and .i64 ((p : Int) + o) 65535).tmod 256) != bits .and .i64 ((p : Int) + o) 65535) = false := by rw [HV.out, HE.out, hne]; simp
  have hU : IntKind.u16.wrap (bits .and .i64 ((p : Int) + o) 65535) = ((t : Nat) : Int) := by rw [HE.out, u16_of]; omega
  have HS := Lib.hid S17
  clear S17 q16 y18
  go_wp2
  refine bodyPost_ret (v := cpuV ({ c with PC := t })) (by simp [results, Try.results74, go_sem, g0, g1, g2, g3, g4, g5, g6, g7, g8, g9, g10, h0, h1, h2, h3, h4, h5, h6, h7, h8, h9, h10, hU]) rfl ⟨rfl, ?_⟩
  refine Sit.out (k := 2) ?_
  repeat (any_goals (first | (with_reducible exact HS.out) | (with_reducible refine Sit.drew ?_) | (with_reducible refine Sit.set ?_ _ ?_ ?_)))
  all_goals (first | (with_reducible exact Nat.le_refl _) | omega | (simp; done))

set_option maxRecDepth 100000 in
theorem branch_cross (F : Nat → Prop) (B : Nat) (b : BusN) (c : CpuN) (hc : c.ok) (i : Nat) (hi : i ∈ [41, 42, 43, 44, 45, 46, 47, 48]) (hh : holdsL c (opTx i).toList = true) (hcase : ¬ tCase b c) (hf : b.fit 20) (w : World) (hF : ∀ i, w.heap.size ≤ i → F i) (h : BusAt w F B b) :
    Calls Try.prog 74 #[.pointer (some ⟨B, 0, none⟩), cpuV c, .string (opTx i)] w fun e w' => e = .returned (cpuV (branchN b c (opTx i).toList).1) ∧ BusAt w' F B (branchN b c (opTx i).toList).2 ∧ Turn F w w' := by
  have hc' := hc
  obtain ⟨hA, hX, hY, hS, hP⟩ := hc
  have Hh := Lib.hid hh
  obtain ⟨p, hp⟩ : ∃ r_, (c.PC + 2) % 65536 = r_ := ⟨_, rfl⟩
  have pb : p < 65536 := by omega
  obtain ⟨z1, hz1⟩ : ∃ r_, b.get (c.PC + 1) = r_ := ⟨_, rfl⟩
  obtain ⟨b1, hb1⟩ : ∃ r_, b.rd (c.PC + 1) = r_ := ⟨_, rfl⟩
  have Fb1 : b1.fit 21 := by rw [← hb1]; exact hf.rd
  obtain ⟨z2, hz2⟩ : ∃ r_, b1.get (p) = r_ := ⟨_, rfl⟩
  obtain ⟨b2, hb2⟩ : ∃ r_, b1.rd (p) = r_ := ⟨_, rfl⟩
  have Fb2 : b2.fit 22 := by rw [← hb2]; exact Fb1.rd
  obtain ⟨o, ho⟩ : ∃ r_, offI z1 = r_ := ⟨_, rfl⟩
  obtain ⟨t, ht⟩ : ∃ r_, (p + offN z1) % 65536 = r_ := ⟨_, rfl⟩
  have tb : t < 65536 := by omega
  obtain ⟨v, hv⟩ : ∃ r_, p / 256 * 256 + t % 256 = r_ := ⟨_, rfl⟩
  have hne : ¬ v = t := by
    have := hcase
    simp only [tCase, hp, hz1, hb1, hz2, hb2, ho, ht, hv] at this
    simpa using this
  obtain ⟨z3, hz3⟩ : ∃ r_, b2.get (v) = r_ := ⟨_, rfl⟩
  obtain ⟨b3, hb3⟩ : ∃ r_, b2.rd (v) = r_ := ⟨_, rfl⟩
  have Fb3 : b3.fit 23 := by rw [← hb3]; exact Fb2.rd
  have HP : branchN b c (opTx i).toList = ({ c with PC := t }, b3) := by 
    simp [branchN, hp, hz1, hb1, hz2, hb2, ho, ht, hv, hz3, hb3, hh, hne]
  rw [HP]
  dsimp only
  have S0 := Sit.two h hF (.cells (cpuCells c) 28) (.cells zeroCpu 28)
  have q0 : BoxN ((w.alloc (.cells (cpuCells c) 28)).alloc (.cells zeroCpu 28)) w.heap.size 28 (cpuCells c) := (BoxN.new _ _ _).below ((Below.refl _ _).alloc (Nat.le_refl _) _)
  have y0 : BoxN ((w.alloc (.cells (cpuCells c) 28)).alloc (.cells zeroCpu 28)) (w.heap.size + 1) 28 zeroCpu := by
    have := BoxN.new (w.alloc (.cells (cpuCells c) 28)) 28 zeroCpu
    rwa [World.size_alloc] at this
  have Hp := Lib.hid hp
  have Hz1 := Lib.hid hz1
  have Hb1 := Lib.hid hb1
  have Hz2 := Lib.hid hz2
  have Hb2 := Lib.hid hb2
  have Ho := Lib.hid ho
  have Ht := Lib.hid ht
  have Hv := Lib.hid hv
  have Hz3 := Lib.hid hz3
  have Hb3 := Lib.hid hb3
  clear HP hp hz1 hb1 hz2 hb2 ho ht hv hz3 hb3
  go_enter Try.func74, Try.ntmps74
  go_wp2_with fail
  refine (S0.rd _ (c.PC + 1) (by omega) (by omega) (hf.mono (by omega)) Hz1.out Hb1.out).mono ?_
  rintro e w2 ⟨rfl, t1⟩
  have q3 := t1.box _ _ _ (Nat.le_refl _) (by omega) q0
  have y5 := t1.box _ _ _ (by omega) (by omega) y0
  have S4 := t1.sit
  have z1b : z1 < 256 := by rw [← Hz1.out]; exact S0.bus.byte _
  clear q0 S0 t1 y0
  obtain ⟨g0, g1, g2, g3, g4, g5, g6, g7, g8, g9, g10, f0⟩ := eleven q3
  have hp2 : IntKind.u16.wrap ((c.PC : Int) + 2) = ((p : Nat) : Int) := by rw [u16_of]; have := Hp.out; omega
  have q6 : BoxN (w2.setCell ⟨w.heap.size, 4, none⟩ (.int .u16 (p : Int))) w.heap.size 28 #[.int .u8 (c.A : Int), .int .u8 (c.X : Int), .int .u8 (c.Y : Int), .int .u8 (c.S : Int), .int .u16 (p : Int), .bool c.N, .bool c.V, .bool c.D, .bool c.I, .bool c.Z, .bool c.C] := q3.set 4 (.int .u16 (p : Int))
  have S7 : Sit F w 2 B (w2.setCell ⟨w.heap.size, 4, none⟩ (.int .u16 (p : Int))) b1 := S4.set (.int .u16 (p : Int)) (Nat.le_refl _) (by omega)
  have y8 := y5.span (Span.set w2 w.heap.size 4 (.int .u16 (p : Int))) (by omega)
  clear q3 S4 y5
  go_wp2_with fail
  refine (holds_at i hi c Hh.out _).mono ?_
  rintro e w10 ⟨rfl, d9⟩
  have q11 := q6.below d9
  have S12 := S7.below d9
  have y13 := y8.below d9
  clear g0 g1 g2 g3 g4 g5 g6 g7 g8 g9 g10 f0
  clear q6 S7 d9 y8
  obtain ⟨g0, g1, g2, g3, g4, g5, g6, g7, g8, g9, g10, f0⟩ := eleven q11
  obtain ⟨h0, h1, h2, h3, h4, h5, h6, h7, h8, h9, h10, f1⟩ := eleven y13
  clear hp2
  go_wp2_with fail
  refine (S12.rd _ (p) (by omega) (by omega) (Fb1.mono (by omega)) Hz2.out Hb2.out).mono ?_
  rintro e w15 ⟨rfl, t14⟩
  have q16 := t14.box _ _ _ (Nat.le_refl _) (by omega) q11
  have y18 := t14.box _ _ _ (by omega) (by omega) y13
  have S17 := t14.sit
  have z2b : z2 < 256 := by rw [← Hz2.out]; exact S12.bus.byte _
  clear g0 g1 g2 g3 g4 g5 g6 g7 g8 g9 g10 f0 h0 h1 h2 h3 h4 h5 h6 h7 h8 h9 h10 f1
  clear q11 S12 t14 y13
  obtain ⟨g0, g1, g2, g3, g4, g5, g6, g7, g8, g9, g10, f0⟩ := eleven q16
  obtain ⟨h0, h1, h2, h3, h4, h5, h6, h7, h8, h9, h10, f1⟩ := eleven y18
  go_wp2_with fail
  refine (off_at z1 z1b Ho.out _).mono ?_
  rintro e w19 ⟨rfl, rfl⟩
  have HE := Lib.hid (and_off p z1 t Ho.out pb z1b Ht.out)
  have HV := Lib.hid (page_off p t v pb HE.out tb Hv.out)
  have ob : -128 ≤ o ∧ o ≤ 127 := by have := Ho.out; unfold offI at this; split at this <;> omega
  have hT : (wrap64 ((p : Int) / 256 * 256 + (bits .and .i64 ((p : Int) + o) 65535).tmod 256) != bits .and .i64 ((p : Int) + o) 65535) = true := by rw [HV.out, HE.out]; simpa using fun h => hne (by omega)
  go_wp2_with fail
  refine (S17.rd _ (v) HV.out (by rw [← Hv.out]; omega) (Fb2.mono (by omega)) Hz3.out Hb3.out).mono ?_
  rintro e w21 ⟨rfl, t20⟩
  have q22 := t20.box _ _ _ (Nat.le_refl _) (by omega) q16
  have y24 := t20.box _ _ _ (by omega) (by omega) y18
  have S23 := t20.sit
  have z3b : z3 < 256 := by rw [← Hz3.out]; exact S17.bus.byte _
  clear g0 g1 g2 g3 g4 g5 g6 g7 g8 g9 g10 f0 h0 h1 h2 h3 h4 h5 h6 h7 h8 h9 h10 f1
  clear q16 S17 t20 y18
  obtain ⟨g0, g1, g2, g3, g4, g5, g6, g7, g8, g9, g10, f0⟩ := eleven q22
  obtain ⟨h0, h1, h2, h3, h4, h5, h6, h7, h8, h9, h10, f1⟩ := eleven y24
  clear hT
  have hU : IntKind.u16.wrap (bits .and .i64 ((p : Int) + o) 65535) = ((t : Nat) : Int) := by rw [HE.out, u16_of]; omega
  have HS := Lib.hid S23
  clear S23 q22 y24
  go_wp2
  refine bodyPost_ret (v := cpuV ({ c with PC := t })) (by simp [results, Try.results74, go_sem, g0, g1, g2, g3, g4, g5, g6, g7, g8, g9, g10, h0, h1, h2, h3, h4, h5, h6, h7, h8, h9, h10, hU]) rfl ⟨rfl, ?_⟩
  refine Sit.out (k := 2) ?_
  repeat (any_goals (first | (with_reducible exact HS.out) | (with_reducible refine Sit.drew ?_) | (with_reducible refine Sit.set ?_ _ ?_ ?_)))
  all_goals (first | (with_reducible exact Nat.le_refl _) | omega | (simp; done))

set_option maxRecDepth 100000 in
theorem push_any (F : Nat → Prop) (B : Nat) (b : BusN) (c : CpuN) (hc : c.ok) (pc : Nat) (hpc : pc < 65536) (brk : Bool) (vec : Nat) (hvec : vec < 65536) (hf : b.fit 20) (w : World) (hF : ∀ i, w.heap.size ≤ i → F i) (h : BusAt w F B b) :
    Calls Try.prog 70 #[.pointer (some ⟨B, 0, none⟩), cpuV c, .int .i64 pc, .bool brk, .int .i64 vec] w fun e w' => e = .returned (cpuV (pushN b c pc brk vec).1) ∧ BusAt w' F B (pushN b c pc brk vec).2 ∧ Turn F w w' := by
  have hc' := hc
  obtain ⟨hA, hX, hY, hS, hP⟩ := hc
  obtain ⟨x, hx⟩ : ∃ r_, (pkV c.N c.V brk c.D c.I c.Z c.C).toNat = r_ := ⟨_, rfl⟩
  have xb : x < 256 := by have := (pkV_bd c.N c.V brk c.D c.I c.Z c.C).2; omega
  obtain ⟨s0, hs0⟩ : ∃ r_, stk c.S = r_ := ⟨_, rfl⟩
  have s0b : s0 < 1000 := by subst hs0; unfold stk; omega
  obtain ⟨s1, hs1⟩ : ∃ r_, stk (c.S + 255) = r_ := ⟨_, rfl⟩
  have s1b : s1 < 1000 := by subst hs1; unfold stk; omega
  obtain ⟨s2, hs2⟩ : ∃ r_, stk (c.S + 254) = r_ := ⟨_, rfl⟩
  have s2b : s2 < 1000 := by subst hs2; unfold stk; omega
  obtain ⟨ph, hph⟩ : ∃ r_, pc / 256 % 256 = r_ := ⟨_, rfl⟩
  have phb : ph < 256 := by omega
  obtain ⟨pl, hpl⟩ : ∃ r_, pc % 256 = r_ := ⟨_, rfl⟩
  have plb : pl < 256 := by omega
  obtain ⟨b1, hb1⟩ : ∃ r_, b.put (s0) (ph) = r_ := ⟨_, rfl⟩
  have Fb1 : b1.fit 21 := by rw [← hb1]; exact hf.put
  obtain ⟨b2, hb2⟩ : ∃ r_, b1.put (s1) (pl) = r_ := ⟨_, rfl⟩
  have Fb2 : b2.fit 22 := by rw [← hb2]; exact Fb1.put
  obtain ⟨b3, hb3⟩ : ∃ r_, b2.put (s2) (x) = r_ := ⟨_, rfl⟩
  have Fb3 : b3.fit 23 := by rw [← hb3]; exact Fb2.put
  obtain ⟨z4, hz4⟩ : ∃ r_, b3.get (vec) = r_ := ⟨_, rfl⟩
  obtain ⟨b4, hb4⟩ : ∃ r_, b3.rd (vec) = r_ := ⟨_, rfl⟩
  have Fb4 : b4.fit 24 := by rw [← hb4]; exact Fb3.rd
  obtain ⟨z5, hz5⟩ : ∃ r_, b4.get (vec + 1) = r_ := ⟨_, rfl⟩
  obtain ⟨b5, hb5⟩ : ∃ r_, b4.rd (vec + 1) = r_ := ⟨_, rfl⟩
  have Fb5 : b5.fit 25 := by rw [← hb5]; exact Fb4.rd
  obtain ⟨u, hu⟩ : ∃ r_, word z4 z5 = r_ := ⟨_, rfl⟩
  obtain ⟨s3, hs3⟩ : ∃ r_, (c.S + 253) % 256 = r_ := ⟨_, rfl⟩
  have HP : pushN b c pc brk vec = ({ c with PC := u, S := s3, I := true }, b5) := by 
    have gz : b3.get vec = z4 := hz4
    have gy : b3.get (vec + 1) = z5 := by rw [← hz5, ← hb4]; rfl
    simp [pushN, hx, hs0, hs1, hs2, hph, hpl, hb1, hb2, hb3, hz4, hb4, hz5, hb5, hu, hs3, gy]
  rw [HP]
  dsimp only
  have S0 := Sit.two h hF (.cells (cpuCells c) 28) (.cells zeroCpu 28)
  have q0 : BoxN ((w.alloc (.cells (cpuCells c) 28)).alloc (.cells zeroCpu 28)) w.heap.size 28 (cpuCells c) := (BoxN.new _ _ _).below ((Below.refl _ _).alloc (Nat.le_refl _) _)
  have y0 : BoxN ((w.alloc (.cells (cpuCells c) 28)).alloc (.cells zeroCpu 28)) (w.heap.size + 1) 28 zeroCpu := by
    have := BoxN.new (w.alloc (.cells (cpuCells c) 28)) 28 zeroCpu
    rwa [World.size_alloc] at this
  have Hx := Lib.hid hx
  have Hs0 := Lib.hid hs0
  have Hs1 := Lib.hid hs1
  have Hs2 := Lib.hid hs2
  have Hph := Lib.hid hph
  have Hpl := Lib.hid hpl
  have Hb1 := Lib.hid hb1
  have Hb2 := Lib.hid hb2
  have Hb3 := Lib.hid hb3
  have Hz4 := Lib.hid hz4
  have Hb4 := Lib.hid hb4
  have Hz5 := Lib.hid hz5
  have Hb5 := Lib.hid hb5
  have Hu := Lib.hid hu
  have Hs3 := Lib.hid hs3
  clear HP hx hs0 hs1 hs2 hph hpl hb1 hb2 hb3 hz4 hb4 hz5 hb5 hu hs3
  go_enter Try.func70, Try.ntmps70
  obtain ⟨g0, g1, g2, g3, g4, g5, g6, g7, g8, g9, g10, f0⟩ := eleven q0
  go_wp2_with fail
  refine (stack_at _ c.S (by omega) (by omega) (by omega) Hs0.out _).mono ?_
  rintro e w1 ⟨rfl, rfl⟩
  have hD1 := and8_quo pc ph Hph.out
  have hD2 := and8 pc pl Hpl.out
  go_wp2_with fail
  refine (S0.wr _ _ (s0) (ph) rfl (by first | rfl | omega) (by omega) (by omega) (hf.mono (by omega)) Hb1.out).mono ?_
  rintro e w3 ⟨rfl, t2⟩
  have q4 := t2.box _ _ _ (Nat.le_refl _) (by omega) q0
  have y6 := t2.box _ _ _ (by omega) (by omega) y0
  have S5 := t2.sit
  clear g0 g1 g2 g3 g4 g5 g6 g7 g8 g9 g10 f0
  clear q0 S0 t2 y0
  obtain ⟨g0, g1, g2, g3, g4, g5, g6, g7, g8, g9, g10, f0⟩ := eleven q4
  go_wp2_with fail
  refine (stack_at _ (c.S + 255) (by omega) (by omega) (by omega) Hs1.out _).mono ?_
  rintro e w7 ⟨rfl, rfl⟩
  go_wp2_with fail
  refine (S5.wr _ _ (s1) (pl) rfl (by first | rfl | omega) (by omega) (by omega) (Fb1.mono (by omega)) Hb2.out).mono ?_
  rintro e w9 ⟨rfl, t8⟩
  have q10 := t8.box _ _ _ (Nat.le_refl _) (by omega) q4
  have y12 := t8.box _ _ _ (by omega) (by omega) y6
  have S11 := t8.sit
  clear g0 g1 g2 g3 g4 g5 g6 g7 g8 g9 g10 f0
  clear q4 S5 t8 y6
  have HX := Lib.hid (show pkV c.N c.V brk c.D c.I c.Z c.C = ((x : Nat) : Int) from by have := (pkV_bd c.N c.V brk c.D c.I c.Z c.C).1; have := Hx.out; omega)
  have hwr : IntKind.i64.wrap ((c.S : Int) - 2) = (c.S : Int) - 2 := IntWalk.i64_in _ (by omega)
  go_wp2_with fail
  go_region_held3 (fun w' => w'.cell? ⟨w.heap.size, 5, none⟩ = some (.bool c.N) ∧ w'.cell? ⟨w.heap.size, 6, none⟩ = some (.bool c.V) ∧ w'.cell? ⟨w.heap.size, 7, none⟩ = some (.bool c.D) ∧ w'.cell? ⟨w.heap.size, 8, none⟩ = some (.bool c.I) ∧ w'.cell? ⟨w.heap.size, 9, none⟩ = some (.bool c.Z) ∧ w'.cell? ⟨w.heap.size, 10, none⟩ = some (.bool c.C))
    (((try dsimp only); (first | (exact flagsAt q10) | (exact flagsAt (q10.drew.below dP)) | (exact flagsAt (tW.box _ _ _ (Nat.le_refl _) (by omega) (q10.drew.below dP))))))
    (first | (go_at_call 79; refine (stack_at _ (c.S + 254) (by omega) (by omega) (by omega) Hs2.out _).mono ?_; rintro e wS ⟨rfl, rfl⟩) | (go_at_call 80; refine (packP_at _ _ _ _ _ _ _ HX.out _).mono ?_; rintro e wP ⟨rfl, dP⟩) | (go_at_call 78; refine ((S11.drew.below dP).wr _ _ (s2) (x) rfl rfl (by omega) (by omega) (Fb2.mono (by omega)) Hb3.out).mono ?_; rintro e wW ⟨rfl, tW⟩))
  have q13 := tW.box _ _ _ (Nat.le_refl _) (by omega) (q10.drew.below dP)
  have y15 := tW.box _ _ _ (by omega) (by omega) (y12.drew.below dP)
  have S14 := tW.sit
  clear tW q10 S11 y12 dP hwr
  clear hD1 hD2
  obtain ⟨g0, g1, g2, g3, g4, g5, g6, g7, g8, g9, g10, f0⟩ := eleven q13
  go_wp2_with fail
  refine (S14.rd _ (vec) rfl (by omega) (Fb3.mono (by omega)) Hz4.out Hb4.out).mono ?_
  rintro e w17 ⟨rfl, t16⟩
  have q18 := t16.box _ _ _ (Nat.le_refl _) (by omega) q13
  have y20 := t16.box _ _ _ (by omega) (by omega) y15
  have S19 := t16.sit
  have z4b : z4 < 256 := by rw [← Hz4.out]; exact S14.bus.byte _
  clear g0 g1 g2 g3 g4 g5 g6 g7 g8 g9 g10 f0
  clear q13 S14 t16 y15
  obtain ⟨g0, g1, g2, g3, g4, g5, g6, g7, g8, g9, g10, f0⟩ := eleven q18
  go_wp2_with fail
  refine (S19.rd _ (vec + 1) (by omega) (by omega) (Fb4.mono (by omega)) Hz5.out Hb5.out).mono ?_
  rintro e w22 ⟨rfl, t21⟩
  have q23 := t21.box _ _ _ (Nat.le_refl _) (by omega) q18
  have y25 := t21.box _ _ _ (by omega) (by omega) y20
  have S24 := t21.sit
  have z5b : z5 < 256 := by rw [← Hz5.out]; exact S19.bus.byte _
  clear g0 g1 g2 g3 g4 g5 g6 g7 g8 g9 g10 f0
  clear q18 S19 t21 y20
  obtain ⟨g0, g1, g2, g3, g4, g5, g6, g7, g8, g9, g10, f0⟩ := eleven q23
  obtain ⟨h0, h1, h2, h3, h4, h5, h6, h7, h8, h9, h10, f1⟩ := eleven y25
  go_wp2_with fail
  refine (word_at z4 z5 z4b z5b Hu.out _).mono ?_
  rintro e w26 ⟨rfl, rfl⟩
  have ub : u < 65536 := by rw [← Hu.out]; unfold word; omega
  have hS3 : IntKind.u8.wrap ((c.S : Int) - 3) = ((s3 : Nat) : Int) := by rw [u8_of]; have := Hs3.out; omega
  have HS := Lib.hid S24
  clear S24 q23 y25
  go_wp2
  refine bodyPost_ret (v := cpuV ({ c with PC := u, S := s3, I := true })) (by simp [results, Try.results70, go_sem, g0, g1, g2, g3, g4, g5, g6, g7, g8, g9, g10, h0, h1, h2, h3, h4, h5, h6, h7, h8, h9, h10, hS3]) rfl ⟨rfl, ?_⟩
  refine Sit.out (k := 2) ?_
  repeat (any_goals (first | (with_reducible exact HS.out) | (with_reducible refine Sit.drew ?_) | (with_reducible refine Sit.set ?_ _ ?_ ?_)))
  all_goals (first | (with_reducible exact Nat.le_refl _) | omega | (simp; done))

theorem oneAt {W : World} {B : Nat} {t : TypeId} {a0 a1 a2 a3 a4 a5 a6 a7 a8 a9 a10 : Value} (h : BoxN W B t #[a0, a1, a2, a3, a4, a5, a6, a7, a8, a9, a10]) : W.cell? ⟨B, 0, none⟩ = some a0 := h.cell 0 _ rfl

set_option maxRecDepth 100000 in
theorem hold_PHP (F : Nat → Prop) (B : Nat) (b : BusN) (c : CpuN) (hc : c.ok) (hf : b.fit 20) (w : World) (hF : ∀ i, w.heap.size ≤ i → F i) (h : BusAt w F B b) :
    Calls Try.prog 90 #[.pointer (some ⟨B, 0, none⟩), cpuV c, .string ⟨#[80, 72, 80]⟩] w fun e w' => e = .returned (cpuV (holdN b c [80, 72, 80]).1) ∧ BusAt w' F B (holdN b c [80, 72, 80]).2 ∧ Turn F w w' := by
  have hc' := hc
  obtain ⟨hA, hX, hY, hS, hP⟩ := hc
  have brkx := (pkV_bd c.N c.V true c.D c.I c.Z c.C)
  obtain ⟨p, hp⟩ : ∃ r_, (c.PC + 1) % 65536 = r_ := ⟨_, rfl⟩
  have pb : p < 65536 := by omega
  obtain ⟨s0, hs0⟩ : ∃ r_, stk c.S = r_ := ⟨_, rfl⟩
  have s0b : s0 < 1000 := by subst hs0; unfold stk; omega
  have hp2 : IntKind.u16.wrap ((c.PC : Int) + 1) = ((p : Nat) : Int) := by rw [u16_of]; omega
  obtain ⟨s3, hs3⟩ : ∃ r_, (c.S + 255) % 256 = r_ := ⟨_, rfl⟩
  have hS3 : IntKind.u8.wrap ((c.S : Int) - 1) = ((s3 : Nat) : Int) := by rw [u8_of]; omega
  obtain ⟨x, hx⟩ : ∃ r_, (pkV c.N c.V true c.D c.I c.Z c.C).toNat = r_ := ⟨_, rfl⟩
  have xb : x < 256 := by omega
  obtain ⟨b1, hb1⟩ : ∃ r_, b.put (s0) (x) = r_ := ⟨_, rfl⟩
  have Fb1 : b1.fit 21 := by rw [← hb1]; exact hf.put
  have HP : holdN b c [80, 72, 80] = ({ c with PC := p, S := s3 }, b1) := by 
    simp [holdN, hp, hs0, hs3, hx, hb1]
  rw [HP]
  dsimp only
  have S0 := Sit.two h hF (.cells (#[.int .u8 (c.A : Int), .int .u8 (c.X : Int), .int .u8 (c.Y : Int), .int .u8 (c.S : Int), .int .u16 (p : Int), .bool c.N, .bool c.V, .bool c.D, .bool c.I, .bool c.Z, .bool c.C]) 28) (.cells zeroCpu 28)
  have q0 : BoxN ((w.alloc (.cells (#[.int .u8 (c.A : Int), .int .u8 (c.X : Int), .int .u8 (c.Y : Int), .int .u8 (c.S : Int), .int .u16 (p : Int), .bool c.N, .bool c.V, .bool c.D, .bool c.I, .bool c.Z, .bool c.C]) 28)).alloc (.cells zeroCpu 28)) w.heap.size 28 (#[.int .u8 (c.A : Int), .int .u8 (c.X : Int), .int .u8 (c.Y : Int), .int .u8 (c.S : Int), .int .u16 (p : Int), .bool c.N, .bool c.V, .bool c.D, .bool c.I, .bool c.Z, .bool c.C]) := (BoxN.new _ _ _).below ((Below.refl _ _).alloc (Nat.le_refl _) _)
  have y0 : BoxN ((w.alloc (.cells (#[.int .u8 (c.A : Int), .int .u8 (c.X : Int), .int .u8 (c.Y : Int), .int .u8 (c.S : Int), .int .u16 (p : Int), .bool c.N, .bool c.V, .bool c.D, .bool c.I, .bool c.Z, .bool c.C]) 28)).alloc (.cells zeroCpu 28)) (w.heap.size + 1) 28 zeroCpu := by
    have := BoxN.new (w.alloc (.cells (#[.int .u8 (c.A : Int), .int .u8 (c.X : Int), .int .u8 (c.Y : Int), .int .u8 (c.S : Int), .int .u16 (p : Int), .bool c.N, .bool c.V, .bool c.D, .bool c.I, .bool c.Z, .bool c.C]) 28)) 28 zeroCpu
    rwa [World.size_alloc] at this
  have Hp := Lib.hid hp
  have Hs0 := Lib.hid hs0
  have Hs3 := Lib.hid hs3
  have Hp2 := Lib.hid hp2
  have HS3 := Lib.hid hS3
  have Hx := Lib.hid hx
  have Hb1 := Lib.hid hb1
  clear HP hp hs0 hs3 hp2 hS3 hx hb1
  go_enter Try.func90, Try.ntmps90
  have hp2 := Hp2.out
  have HX := Lib.hid (show pkV c.N c.V true c.D c.I c.Z c.C = ((x : Nat) : Int) from by have := (pkV_bd c.N c.V true c.D c.I c.Z c.C).1; have := Hx.out; omega)
  go_wp2_with fail
  go_region_held3 (fun w' => w'.cell? ⟨w.heap.size, 5, none⟩ = some (.bool c.N) ∧ w'.cell? ⟨w.heap.size, 6, none⟩ = some (.bool c.V) ∧ w'.cell? ⟨w.heap.size, 7, none⟩ = some (.bool c.D) ∧ w'.cell? ⟨w.heap.size, 8, none⟩ = some (.bool c.I) ∧ w'.cell? ⟨w.heap.size, 9, none⟩ = some (.bool c.Z) ∧ w'.cell? ⟨w.heap.size, 10, none⟩ = some (.bool c.C))
    (((try dsimp only); (first | (exact flagsAt q0) | (exact flagsAt (q0.drew.below dP)) | (exact flagsAt (tW.box _ _ _ (Nat.le_refl _) (by omega) (q0.drew.below dP))))))
    (first | (go_at_call 79; refine (stack_at _ (c.S) (by omega) (by omega) (by omega) Hs0.out _).mono ?_; rintro e wS ⟨rfl, rfl⟩) | (go_at_call 80; refine (packP_at _ _ _ _ _ _ _ HX.out _).mono ?_; rintro e wP ⟨rfl, dP⟩) | (go_at_call 78; refine ((S0.drew.below dP).wr _ _ (s0) (x) rfl rfl (by omega) (by omega) (hf.mono (by omega)) Hb1.out).mono ?_; rintro e wW ⟨rfl, tW⟩))
  have q1 := tW.box _ _ _ (Nat.le_refl _) (by omega) (q0.drew.below dP)
  have y3 := tW.box _ _ _ (by omega) (by omega) (y0.drew.below dP)
  have S2 := tW.sit
  clear tW q0 S0 y0 dP 
  clear hp2
  obtain ⟨g0, g1, g2, g3, g4, g5, g6, g7, g8, g9, g10, f0⟩ := eleven q1
  obtain ⟨h0, h1, h2, h3, h4, h5, h6, h7, h8, h9, h10, f1⟩ := eleven y3
  have hS3 := HS3.out
  have HS := Lib.hid S2
  clear S2 q1 y3
  go_wp2
  refine bodyPost_ret (v := cpuV ({ c with PC := p, S := s3 })) (by simp [results, Try.results90, go_sem, g0, g1, g2, g3, g4, g5, g6, g7, g8, g9, g10, h0, h1, h2, h3, h4, h5, h6, h7, h8, h9, h10, hS3]) rfl ⟨rfl, ?_⟩
  refine Sit.out (k := 2) ?_
  repeat (any_goals (first | (with_reducible exact HS.out) | (with_reducible refine Sit.drew ?_) | (with_reducible refine Sit.set ?_ _ ?_ ?_)))
  all_goals (first | (with_reducible exact Nat.le_refl _) | omega | (simp; done))

set_option maxRecDepth 100000 in
theorem hold_PLP (F : Nat → Prop) (B : Nat) (b : BusN) (c : CpuN) (hc : c.ok) (hf : b.fit 20) (w : World) (hF : ∀ i, w.heap.size ≤ i → F i) (h : BusAt w F B b) :
    Calls Try.prog 90 #[.pointer (some ⟨B, 0, none⟩), cpuV c, .string ⟨#[80, 76, 80]⟩] w fun e w' => e = .returned (cpuV (holdN b c [80, 76, 80]).1) ∧ BusAt w' F B (holdN b c [80, 76, 80]).2 ∧ Turn F w w' := by
  have hc' := hc
  obtain ⟨hA, hX, hY, hS, hP⟩ := hc
  obtain ⟨p, hp⟩ : ∃ r_, (c.PC + 1) % 65536 = r_ := ⟨_, rfl⟩
  have pb : p < 65536 := by omega
  obtain ⟨s0, hs0⟩ : ∃ r_, stk c.S = r_ := ⟨_, rfl⟩
  have s0b : s0 < 1000 := by subst hs0; unfold stk; omega
  have hp2 : IntKind.u16.wrap ((c.PC : Int) + 1) = ((p : Nat) : Int) := by rw [u16_of]; omega
  obtain ⟨s1, hs1⟩ : ∃ r_, stk (c.S + 1) = r_ := ⟨_, rfl⟩
  have s1b : s1 < 1000 := by subst hs1; unfold stk; omega
  obtain ⟨s3, hs3⟩ : ∃ r_, (c.S + 1) % 256 = r_ := ⟨_, rfl⟩
  have hS3 : IntKind.u8.wrap ((c.S : Int) + 1) = ((s3 : Nat) : Int) := by rw [u8_of]; omega
  obtain ⟨z1, hz1⟩ : ∃ r_, b.get (s0) = r_ := ⟨_, rfl⟩
  obtain ⟨b1, hb1⟩ : ∃ r_, b.rd (s0) = r_ := ⟨_, rfl⟩
  have Fb1 : b1.fit 21 := by rw [← hb1]; exact hf.rd
  obtain ⟨z2, hz2⟩ : ∃ r_, b1.get (s1) = r_ := ⟨_, rfl⟩
  obtain ⟨b2, hb2⟩ : ∃ r_, b1.rd (s1) = r_ := ⟨_, rfl⟩
  have Fb2 : b2.fit 22 := by rw [← hb2]; exact Fb1.rd
  have HP : holdN b c [80, 76, 80] = ({ c with PC := p, S := s3, N := hasB z2 128, V := hasB z2 64, D := hasB z2 8, I := hasB z2 4, Z := hasB z2 2, C := hasB z2 1 }, b2) := by 
    have gz : b.get s1 = z2 := by rw [← hz2, ← hb1]; rfl
    simp [holdN, hp, hs0, hs1, hs3, hz1, hb1, hz2, hb2, gz]
  rw [HP]
  dsimp only
  have S0 := Sit.two h hF (.cells (#[.int .u8 (c.A : Int), .int .u8 (c.X : Int), .int .u8 (c.Y : Int), .int .u8 (c.S : Int), .int .u16 (p : Int), .bool c.N, .bool c.V, .bool c.D, .bool c.I, .bool c.Z, .bool c.C]) 28) (.cells zeroCpu 28)
  have q0 : BoxN ((w.alloc (.cells (#[.int .u8 (c.A : Int), .int .u8 (c.X : Int), .int .u8 (c.Y : Int), .int .u8 (c.S : Int), .int .u16 (p : Int), .bool c.N, .bool c.V, .bool c.D, .bool c.I, .bool c.Z, .bool c.C]) 28)).alloc (.cells zeroCpu 28)) w.heap.size 28 (#[.int .u8 (c.A : Int), .int .u8 (c.X : Int), .int .u8 (c.Y : Int), .int .u8 (c.S : Int), .int .u16 (p : Int), .bool c.N, .bool c.V, .bool c.D, .bool c.I, .bool c.Z, .bool c.C]) := (BoxN.new _ _ _).below ((Below.refl _ _).alloc (Nat.le_refl _) _)
  have y0 : BoxN ((w.alloc (.cells (#[.int .u8 (c.A : Int), .int .u8 (c.X : Int), .int .u8 (c.Y : Int), .int .u8 (c.S : Int), .int .u16 (p : Int), .bool c.N, .bool c.V, .bool c.D, .bool c.I, .bool c.Z, .bool c.C]) 28)).alloc (.cells zeroCpu 28)) (w.heap.size + 1) 28 zeroCpu := by
    have := BoxN.new (w.alloc (.cells (#[.int .u8 (c.A : Int), .int .u8 (c.X : Int), .int .u8 (c.Y : Int), .int .u8 (c.S : Int), .int .u16 (p : Int), .bool c.N, .bool c.V, .bool c.D, .bool c.I, .bool c.Z, .bool c.C]) 28)) 28 zeroCpu
    rwa [World.size_alloc] at this
  have Hp := Lib.hid hp
  have Hs0 := Lib.hid hs0
  have Hs1 := Lib.hid hs1
  have Hs3 := Lib.hid hs3
  have Hp2 := Lib.hid hp2
  have HS3 := Lib.hid hS3
  have Hz1 := Lib.hid hz1
  have Hb1 := Lib.hid hb1
  have Hz2 := Lib.hid hz2
  have Hb2 := Lib.hid hb2
  clear HP hp hs0 hs1 hs3 hp2 hS3 hz1 hb1 hz2 hb2
  go_enter Try.func90, Try.ntmps90
  have hp2 := Hp2.out
  go_wp2_with fail
  refine (stack_at _ c.S (by omega) (by omega) (by omega) Hs0.out _).mono ?_
  rintro e w1 ⟨rfl, rfl⟩
  clear hp2
  go_wp2_with fail
  refine (S0.rd _ (s0) rfl (by omega) (hf.mono (by omega)) Hz1.out Hb1.out).mono ?_
  rintro e w3 ⟨rfl, t2⟩
  have q4 := t2.box _ _ _ (Nat.le_refl _) (by omega) q0
  have y6 := t2.box _ _ _ (by omega) (by omega) y0
  have S5 := t2.sit
  have z1b : z1 < 256 := by rw [← Hz1.out]; exact S0.bus.byte _
  clear q0 S0 t2 y0
  obtain ⟨g0, g1, g2, g3, g4, g5, g6, g7, g8, g9, g10, f0⟩ := eleven q4
  go_wp2_with fail
  refine (stack_at _ (c.S + 1) (by omega) (by omega) (by omega) Hs1.out _).mono ?_
  rintro e w7 ⟨rfl, rfl⟩
  go_wp2_with fail
  refine (S5.rd _ (s1) rfl (by omega) (Fb1.mono (by omega)) Hz2.out Hb2.out).mono ?_
  rintro e w9 ⟨rfl, t8⟩
  have q10 := t8.box _ _ _ (Nat.le_refl _) (by omega) q4
  have y12 := t8.box _ _ _ (by omega) (by omega) y6
  have S11 := t8.sit
  have z2b : z2 < 256 := by rw [← Hz2.out]; exact S5.bus.byte _
  clear g0 g1 g2 g3 g4 g5 g6 g7 g8 g9 g10 f0
  clear q4 S5 t8 y6
  obtain ⟨g0, g1, g2, g3, g4, g5, g6, g7, g8, g9, g10, f0⟩ := eleven q10
  have hS3 := HS3.out
  have q13 : BoxN (w9.setCell ⟨w.heap.size, 3, none⟩ (.int .u8 (s3 : Int))) w.heap.size 28 #[.int .u8 (c.A : Int), .int .u8 (c.X : Int), .int .u8 (c.Y : Int), .int .u8 (s3 : Int), .int .u16 (p : Int), .bool c.N, .bool c.V, .bool c.D, .bool c.I, .bool c.Z, .bool c.C] := q10.set 3 (.int .u8 (s3 : Int))
  have S14 : Sit F w 2 B (w9.setCell ⟨w.heap.size, 3, none⟩ (.int .u8 (s3 : Int))) b2 := S11.set (.int .u8 (s3 : Int)) (Nat.le_refl _) (by omega)
  have y15 := y12.span (Span.set w9 w.heap.size 3 (.int .u8 (s3 : Int))) (by omega)
  clear q10 S11 y12
  go_wp2_with fail
  refine (specUnpackP_any _ _).mono ?_
  rintro e w17 ⟨rfl, d16⟩
  have q18 := q13.below d16
  have S19 := S14.below d16
  have y20 := y15.below d16
  clear g0 g1 g2 g3 g4 g5 g6 g7 g8 g9 g10 f0
  clear q13 S14 d16 y15
  clear hS3
  obtain ⟨g0, g1, g2, g3, g4, g5, g6, g7, g8, g9, g10, f0⟩ := eleven q18
  obtain ⟨h0, h1, h2, h3, h4, h5, h6, h7, h8, h9, h10, f1⟩ := eleven y20
  have HS := Lib.hid S19
  clear S19 q18 y20
  go_wp2
  refine bodyPost_ret (v := cpuV ({ c with PC := p, S := s3, N := hasB z2 128, V := hasB z2 64, D := hasB z2 8, I := hasB z2 4, Z := hasB z2 2, C := hasB z2 1 })) (by simp [results, Try.results90, go_sem, g0, g1, g2, g3, g4, g5, g6, g7, g8, g9, g10, h0, h1, h2, h3, h4, h5, h6, h7, h8, h9, h10]) rfl ⟨rfl, ?_⟩
  refine Sit.out (k := 2) ?_
  repeat (any_goals (first | (with_reducible exact HS.out) | (with_reducible refine Sit.drew ?_) | (with_reducible refine Sit.set ?_ _ ?_ ?_)))
  all_goals (first | (with_reducible exact Nat.le_refl _) | omega | (simp; done))

set_option maxRecDepth 100000 in
theorem hold_PHA (F : Nat → Prop) (B : Nat) (b : BusN) (c : CpuN) (hc : c.ok) (hf : b.fit 20) (w : World) (hF : ∀ i, w.heap.size ≤ i → F i) (h : BusAt w F B b) :
    Calls Try.prog 90 #[.pointer (some ⟨B, 0, none⟩), cpuV c, .string ⟨#[80, 72, 65]⟩] w fun e w' => e = .returned (cpuV (holdN b c [80, 72, 65]).1) ∧ BusAt w' F B (holdN b c [80, 72, 65]).2 ∧ Turn F w w' := by
  have hc' := hc
  obtain ⟨hA, hX, hY, hS, hP⟩ := hc
  obtain ⟨p, hp⟩ : ∃ r_, (c.PC + 1) % 65536 = r_ := ⟨_, rfl⟩
  have pb : p < 65536 := by omega
  obtain ⟨s0, hs0⟩ : ∃ r_, stk c.S = r_ := ⟨_, rfl⟩
  have s0b : s0 < 1000 := by subst hs0; unfold stk; omega
  have hp2 : IntKind.u16.wrap ((c.PC : Int) + 1) = ((p : Nat) : Int) := by rw [u16_of]; omega
  obtain ⟨s3, hs3⟩ : ∃ r_, (c.S + 255) % 256 = r_ := ⟨_, rfl⟩
  have hS3 : IntKind.u8.wrap ((c.S : Int) - 1) = ((s3 : Nat) : Int) := by rw [u8_of]; omega
  obtain ⟨b1, hb1⟩ : ∃ r_, b.put (s0) (c.A) = r_ := ⟨_, rfl⟩
  have Fb1 : b1.fit 21 := by rw [← hb1]; exact hf.put
  have HP : holdN b c [80, 72, 65] = ({ c with PC := p, S := s3 }, b1) := by 
    simp [holdN, hp, hs0, hs3, hb1]
  rw [HP]
  dsimp only
  have S0 := Sit.two h hF (.cells (#[.int .u8 (c.A : Int), .int .u8 (c.X : Int), .int .u8 (c.Y : Int), .int .u8 (c.S : Int), .int .u16 (p : Int), .bool c.N, .bool c.V, .bool c.D, .bool c.I, .bool c.Z, .bool c.C]) 28) (.cells zeroCpu 28)
  have q0 : BoxN ((w.alloc (.cells (#[.int .u8 (c.A : Int), .int .u8 (c.X : Int), .int .u8 (c.Y : Int), .int .u8 (c.S : Int), .int .u16 (p : Int), .bool c.N, .bool c.V, .bool c.D, .bool c.I, .bool c.Z, .bool c.C]) 28)).alloc (.cells zeroCpu 28)) w.heap.size 28 (#[.int .u8 (c.A : Int), .int .u8 (c.X : Int), .int .u8 (c.Y : Int), .int .u8 (c.S : Int), .int .u16 (p : Int), .bool c.N, .bool c.V, .bool c.D, .bool c.I, .bool c.Z, .bool c.C]) := (BoxN.new _ _ _).below ((Below.refl _ _).alloc (Nat.le_refl _) _)
  have y0 : BoxN ((w.alloc (.cells (#[.int .u8 (c.A : Int), .int .u8 (c.X : Int), .int .u8 (c.Y : Int), .int .u8 (c.S : Int), .int .u16 (p : Int), .bool c.N, .bool c.V, .bool c.D, .bool c.I, .bool c.Z, .bool c.C]) 28)).alloc (.cells zeroCpu 28)) (w.heap.size + 1) 28 zeroCpu := by
    have := BoxN.new (w.alloc (.cells (#[.int .u8 (c.A : Int), .int .u8 (c.X : Int), .int .u8 (c.Y : Int), .int .u8 (c.S : Int), .int .u16 (p : Int), .bool c.N, .bool c.V, .bool c.D, .bool c.I, .bool c.Z, .bool c.C]) 28)) 28 zeroCpu
    rwa [World.size_alloc] at this
  have Hp := Lib.hid hp
  have Hs0 := Lib.hid hs0
  have Hs3 := Lib.hid hs3
  have Hp2 := Lib.hid hp2
  have HS3 := Lib.hid hS3
  have Hb1 := Lib.hid hb1
  clear HP hp hs0 hs3 hp2 hS3 hb1
  go_enter Try.func90, Try.ntmps90
  have hp2 := Hp2.out
  go_wp2_with fail
  go_region_held3 (fun w' => w'.cell? ⟨w.heap.size, 0, none⟩ = some (.int .u8 (c.A : Int)))
    (((try dsimp only); (first | (exact oneAt q0) | (exact oneAt (tW.box _ _ _ (Nat.le_refl _) (by omega) q0.drew)))))
    (first | (go_at_call 79; refine (stack_at _ (c.S) (by omega) (by omega) (by omega) Hs0.out _).mono ?_; rintro e wS ⟨rfl, rfl⟩) | (go_at_call 78; refine (S0.drew.wr _ _ (s0) (c.A) rfl rfl (by omega) (by omega) (hf.mono (by omega)) Hb1.out).mono ?_; rintro e wW ⟨rfl, tW⟩))
  have q1 := tW.box _ _ _ (Nat.le_refl _) (by omega) q0.drew
  have y3 := tW.box _ _ _ (by omega) (by omega) y0.drew
  have S2 := tW.sit
  clear tW q0 S0 y0  
  clear hp2
  obtain ⟨g0, g1, g2, g3, g4, g5, g6, g7, g8, g9, g10, f0⟩ := eleven q1
  obtain ⟨h0, h1, h2, h3, h4, h5, h6, h7, h8, h9, h10, f1⟩ := eleven y3
  have hS3 := HS3.out
  have HS := Lib.hid S2
  clear S2 q1 y3
  go_wp2
  refine bodyPost_ret (v := cpuV ({ c with PC := p, S := s3 })) (by simp [results, Try.results90, go_sem, g0, g1, g2, g3, g4, g5, g6, g7, g8, g9, g10, h0, h1, h2, h3, h4, h5, h6, h7, h8, h9, h10, hS3]) rfl ⟨rfl, ?_⟩
  refine Sit.out (k := 2) ?_
  repeat (any_goals (first | (with_reducible exact HS.out) | (with_reducible refine Sit.drew ?_) | (with_reducible refine Sit.set ?_ _ ?_ ?_)))
  all_goals (first | (with_reducible exact Nat.le_refl _) | omega | (simp; done))

set_option maxRecDepth 100000 in
theorem hold_PLA (F : Nat → Prop) (B : Nat) (b : BusN) (c : CpuN) (hc : c.ok) (hf : b.fit 20) (w : World) (hF : ∀ i, w.heap.size ≤ i → F i) (h : BusAt w F B b) :
    Calls Try.prog 90 #[.pointer (some ⟨B, 0, none⟩), cpuV c, .string ⟨#[80, 76, 65]⟩] w fun e w' => e = .returned (cpuV (holdN b c [80, 76, 65]).1) ∧ BusAt w' F B (holdN b c [80, 76, 65]).2 ∧ Turn F w w' := by
  have hc' := hc
  obtain ⟨hA, hX, hY, hS, hP⟩ := hc
  obtain ⟨p, hp⟩ : ∃ r_, (c.PC + 1) % 65536 = r_ := ⟨_, rfl⟩
  have pb : p < 65536 := by omega
  obtain ⟨s0, hs0⟩ : ∃ r_, stk c.S = r_ := ⟨_, rfl⟩
  have s0b : s0 < 1000 := by subst hs0; unfold stk; omega
  have hp2 : IntKind.u16.wrap ((c.PC : Int) + 1) = ((p : Nat) : Int) := by rw [u16_of]; omega
  obtain ⟨s1, hs1⟩ : ∃ r_, stk (c.S + 1) = r_ := ⟨_, rfl⟩
  have s1b : s1 < 1000 := by subst hs1; unfold stk; omega
  obtain ⟨s3, hs3⟩ : ∃ r_, (c.S + 1) % 256 = r_ := ⟨_, rfl⟩
  have hS3 : IntKind.u8.wrap ((c.S : Int) + 1) = ((s3 : Nat) : Int) := by rw [u8_of]; omega
  obtain ⟨z1, hz1⟩ : ∃ r_, b.get (s0) = r_ := ⟨_, rfl⟩
  obtain ⟨b1, hb1⟩ : ∃ r_, b.rd (s0) = r_ := ⟨_, rfl⟩
  have Fb1 : b1.fit 21 := by rw [← hb1]; exact hf.rd
  obtain ⟨z2, hz2⟩ : ∃ r_, b1.get (s1) = r_ := ⟨_, rfl⟩
  obtain ⟨b2, hb2⟩ : ∃ r_, b1.rd (s1) = r_ := ⟨_, rfl⟩
  have Fb2 : b2.fit 22 := by rw [← hb2]; exact Fb1.rd
  have HP : holdN b c [80, 76, 65] = ({ c with PC := p, S := s3, A := z2, N := bit7 z2, Z := isZ z2 }, b2) := by 
    have gz : b.get s1 = z2 := by rw [← hz2, ← hb1]; rfl
    simp [holdN, CpuN.nz, hp, hs0, hs1, hs3, hz1, hb1, hz2, hb2, gz]
  rw [HP]
  dsimp only
  have S0 := Sit.two h hF (.cells (#[.int .u8 (c.A : Int), .int .u8 (c.X : Int), .int .u8 (c.Y : Int), .int .u8 (c.S : Int), .int .u16 (p : Int), .bool c.N, .bool c.V, .bool c.D, .bool c.I, .bool c.Z, .bool c.C]) 28) (.cells zeroCpu 28)
  have q0 : BoxN ((w.alloc (.cells (#[.int .u8 (c.A : Int), .int .u8 (c.X : Int), .int .u8 (c.Y : Int), .int .u8 (c.S : Int), .int .u16 (p : Int), .bool c.N, .bool c.V, .bool c.D, .bool c.I, .bool c.Z, .bool c.C]) 28)).alloc (.cells zeroCpu 28)) w.heap.size 28 (#[.int .u8 (c.A : Int), .int .u8 (c.X : Int), .int .u8 (c.Y : Int), .int .u8 (c.S : Int), .int .u16 (p : Int), .bool c.N, .bool c.V, .bool c.D, .bool c.I, .bool c.Z, .bool c.C]) := (BoxN.new _ _ _).below ((Below.refl _ _).alloc (Nat.le_refl _) _)
  have y0 : BoxN ((w.alloc (.cells (#[.int .u8 (c.A : Int), .int .u8 (c.X : Int), .int .u8 (c.Y : Int), .int .u8 (c.S : Int), .int .u16 (p : Int), .bool c.N, .bool c.V, .bool c.D, .bool c.I, .bool c.Z, .bool c.C]) 28)).alloc (.cells zeroCpu 28)) (w.heap.size + 1) 28 zeroCpu := by
    have := BoxN.new (w.alloc (.cells (#[.int .u8 (c.A : Int), .int .u8 (c.X : Int), .int .u8 (c.Y : Int), .int .u8 (c.S : Int), .int .u16 (p : Int), .bool c.N, .bool c.V, .bool c.D, .bool c.I, .bool c.Z, .bool c.C]) 28)) 28 zeroCpu
    rwa [World.size_alloc] at this
  have Hp := Lib.hid hp
  have Hs0 := Lib.hid hs0
  have Hs1 := Lib.hid hs1
  have Hs3 := Lib.hid hs3
  have Hp2 := Lib.hid hp2
  have HS3 := Lib.hid hS3
  have Hz1 := Lib.hid hz1
  have Hb1 := Lib.hid hb1
  have Hz2 := Lib.hid hz2
  have Hb2 := Lib.hid hb2
  clear HP hp hs0 hs1 hs3 hp2 hS3 hz1 hb1 hz2 hb2
  go_enter Try.func90, Try.ntmps90
  have hp2 := Hp2.out
  go_wp2_with fail
  refine (stack_at _ c.S (by omega) (by omega) (by omega) Hs0.out _).mono ?_
  rintro e w1 ⟨rfl, rfl⟩
  clear hp2
  go_wp2_with fail
  refine (S0.rd _ (s0) rfl (by omega) (hf.mono (by omega)) Hz1.out Hb1.out).mono ?_
  rintro e w3 ⟨rfl, t2⟩
  have q4 := t2.box _ _ _ (Nat.le_refl _) (by omega) q0
  have y6 := t2.box _ _ _ (by omega) (by omega) y0
  have S5 := t2.sit
  have z1b : z1 < 256 := by rw [← Hz1.out]; exact S0.bus.byte _
  clear q0 S0 t2 y0
  obtain ⟨g0, g1, g2, g3, g4, g5, g6, g7, g8, g9, g10, f0⟩ := eleven q4
  go_wp2_with fail
  refine (stack_at _ (c.S + 1) (by omega) (by omega) (by omega) Hs1.out _).mono ?_
  rintro e w7 ⟨rfl, rfl⟩
  go_wp2_with fail
  refine (S5.rd _ (s1) rfl (by omega) (Fb1.mono (by omega)) Hz2.out Hb2.out).mono ?_
  rintro e w9 ⟨rfl, t8⟩
  have q10 := t8.box _ _ _ (Nat.le_refl _) (by omega) q4
  have y12 := t8.box _ _ _ (by omega) (by omega) y6
  have S11 := t8.sit
  have z2b : z2 < 256 := by rw [← Hz2.out]; exact S5.bus.byte _
  clear g0 g1 g2 g3 g4 g5 g6 g7 g8 g9 g10 f0
  clear q4 S5 t8 y6
  obtain ⟨g0, g1, g2, g3, g4, g5, g6, g7, g8, g9, g10, f0⟩ := eleven q10
  have hS3 := HS3.out
  have q13 : BoxN (w9.setCell ⟨w.heap.size, 3, none⟩ (.int .u8 (s3 : Int))) w.heap.size 28 #[.int .u8 (c.A : Int), .int .u8 (c.X : Int), .int .u8 (c.Y : Int), .int .u8 (s3 : Int), .int .u16 (p : Int), .bool c.N, .bool c.V, .bool c.D, .bool c.I, .bool c.Z, .bool c.C] := q10.set 3 (.int .u8 (s3 : Int))
  have S14 : Sit F w 2 B (w9.setCell ⟨w.heap.size, 3, none⟩ (.int .u8 (s3 : Int))) b2 := S11.set (.int .u8 (s3 : Int)) (Nat.le_refl _) (by omega)
  have y15 := y12.span (Span.set w9 w.heap.size 3 (.int .u8 (s3 : Int))) (by omega)
  clear q10 S11 y12
  have q16 : BoxN ((w9.setCell ⟨w.heap.size, 3, none⟩ (.int .u8 (s3 : Int))).setCell ⟨w.heap.size, 0, none⟩ (.int .u8 (z2 : Int))) w.heap.size 28 #[.int .u8 (z2 : Int), .int .u8 (c.X : Int), .int .u8 (c.Y : Int), .int .u8 (s3 : Int), .int .u16 (p : Int), .bool c.N, .bool c.V, .bool c.D, .bool c.I, .bool c.Z, .bool c.C] := q13.set 0 (.int .u8 (z2 : Int))
  have S17 : Sit F w 2 B ((w9.setCell ⟨w.heap.size, 3, none⟩ (.int .u8 (s3 : Int))).setCell ⟨w.heap.size, 0, none⟩ (.int .u8 (z2 : Int))) b2 := S14.set (.int .u8 (z2 : Int)) (Nat.le_refl _) (by omega)
  have y18 := y15.span (Span.set (w9.setCell ⟨w.heap.size, 3, none⟩ (.int .u8 (s3 : Int))) w.heap.size 0 (.int .u8 (z2 : Int))) (by omega)
  clear q13 S14 y15
  go_wp2_with fail
  refine (specNZ_any _ _ _ _ _ _ _ _ (by omega) (by omega)).mono ?_
  rintro e w20 ⟨rfl, d19⟩
  have q21 := q16.below d19
  have S22 := S17.below d19
  have y23 := y18.below d19
  clear g0 g1 g2 g3 g4 g5 g6 g7 g8 g9 g10 f0
  clear q16 S17 d19 y18
  clear hS3
  obtain ⟨g0, g1, g2, g3, g4, g5, g6, g7, g8, g9, g10, f0⟩ := eleven q21
  obtain ⟨h0, h1, h2, h3, h4, h5, h6, h7, h8, h9, h10, f1⟩ := eleven y23
  have HS := Lib.hid S22
  clear S22 q21 y23
  go_wp2
  refine bodyPost_ret (v := cpuV ({ c with PC := p, S := s3, A := z2, N := bit7 z2, Z := isZ z2 })) (by simp [results, Try.results90, go_sem, g0, g1, g2, g3, g4, g5, g6, g7, g8, g9, g10, h0, h1, h2, h3, h4, h5, h6, h7, h8, h9, h10]) rfl ⟨rfl, ?_⟩
  refine Sit.out (k := 2) ?_
  repeat (any_goals (first | (with_reducible exact HS.out) | (with_reducible refine Sit.drew ?_) | (with_reducible refine Sit.set ?_ _ ?_ ?_)))
  all_goals (first | (with_reducible exact Nat.le_refl _) | omega | (simp; done))

end Go.Proofs.Ytckfdbjjjgfbfaa
