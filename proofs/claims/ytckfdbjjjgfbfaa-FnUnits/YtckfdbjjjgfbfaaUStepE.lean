/-
  Contracts over the program: the model's place of an operation (l06Place).
-/
import Derived.Test.YtckfdbjjjgfbfaaUStepD
namespace Go.Proofs.Ytckfdbjjjgfbfaa
set_option linter.unusedVariables false
set_option linter.unusedSimpArgs false
open Go.RowKit

theorem page_of (p x e v : Nat) (hp : p < 70000) (he : bits .and .i64 (x : Int) 65535 = (e : Int)) (he2 : e < 65536) (hv : p / 256 * 256 + e % 256 = v) : wrap64 ((p : Int) / 256 * 256 + (bits .and .i64 (x : Int) 65535).tmod 256) = (v : Int) := by
  rw [he, ← hv]
  have h1 : (e : Int).tmod 256 = ((e % 256 : Nat) : Int) := by rw [Int.tmod_eq_emod_of_nonneg (by omega)]; omega
  rw [h1]
  rw [IntWalk.wrap64_in _ (by omega)]
  omega

theorem and16 (x e : Nat) (hx : x < 1000000) (he : x % 65536 = e) : bits .and .i64 (x : Int) 65535 = (e : Int) := by
  have := and_i64_any (x : Int) 16 (by omega)
  simp at this
  omega

theorem and8 (x e : Nat) (he : x % 256 = e) : bits .and .i64 (x : Int) 255 = (e : Int) := by
  rw [and255_i64]
  omega

/-- The place lies in the page of the address without the register. -/
def wCase (b : BusN) (c : CpuN) (m : Int) : Prop := (baseN b c m).1 / 256 * 256 + ((baseN b c m).1 + idxN c m) % 65536 % 256 = ((baseN b c m).1 + idxN c m) % 65536

set_option maxRecDepth 100000 in
theorem place_3 (F : Nat → Prop) (B : Nat) (b : BusN) (c : CpuN) (hc : c.ok) (k : Int) (hf : b.fit 20) (w : World) (hF : ∀ i, w.heap.size ≤ i → F i) (h : BusAt w F B b) :
    Calls Try.prog 88 #[.pointer (some ⟨B, 0, none⟩), cpuV c, .int .i64 3, .int .i64 k] w fun e w' => e = .returned (.int .i64 ((placeN b c 3 k).1 : Nat)) ∧ BusAt w' F B (placeN b c 3 k).2 ∧ Turn F w w' := by
  have hc' := hc
  obtain ⟨hA, hX, hY, hS, hP⟩ := hc
  obtain ⟨z1, hz1⟩ : ∃ r_, b.get (c.PC + 1) = r_ := ⟨_, rfl⟩
  obtain ⟨b1, hb1⟩ : ∃ r_, b.rd (c.PC + 1) = r_ := ⟨_, rfl⟩
  have Fb1 : b1.fit 21 := by rw [← hb1]; exact hf.rd
  have HP : placeN b c 3 k = (z1, b1) := by simp [placeN, baseN, hz1, hb1]
  rw [HP]
  dsimp only
  have S0 := Sit.one h hF (.cells (cpuCells c) 28)
  have q0 : BoxN (w.alloc (.cells (cpuCells c) 28)) w.heap.size 28 (cpuCells c) := BoxN.new _ _ _
  have Hz1 := Lib.hid hz1
  have Hb1 := Lib.hid hb1
  clear HP hz1 hb1
  go_enter Try.func88, Try.ntmps88
  go_wp2_with fail
  refine (S0.rd _ (c.PC + 1) (by omega) (by omega) (hf.mono (by omega)) Hz1.out Hb1.out).mono ?_
  rintro e w2 ⟨rfl, t1⟩
  have q3 := t1.box _ _ _ (Nat.le_refl _) (by omega) q0
  have S4 := t1.sit
  have z1b : z1 < 256 := by rw [← Hz1.out]; exact S0.bus.byte _
  clear q0 S0 t1
  obtain ⟨g0, g1, g2, g3, g4, g5, g6, g7, g8, g9, g10, f0⟩ := eleven q3
  go_wp2
  refine bodyPost_ret (v := .int .i64 (z1 : Nat)) (by simp [results, Try.results88, go_sem]) rfl ⟨rfl, S4.out⟩

set_option maxRecDepth 100000 in
theorem place_4 (F : Nat → Prop) (B : Nat) (b : BusN) (c : CpuN) (hc : c.ok) (k : Int) (hf : b.fit 20) (w : World) (hF : ∀ i, w.heap.size ≤ i → F i) (h : BusAt w F B b) :
    Calls Try.prog 88 #[.pointer (some ⟨B, 0, none⟩), cpuV c, .int .i64 4, .int .i64 k] w fun e w' => e = .returned (.int .i64 ((placeN b c 4 k).1 : Nat)) ∧ BusAt w' F B (placeN b c 4 k).2 ∧ Turn F w w' := by
  have hc' := hc
  obtain ⟨hA, hX, hY, hS, hP⟩ := hc
  obtain ⟨z1, hz1⟩ : ∃ r_, b.get (c.PC + 1) = r_ := ⟨_, rfl⟩
  obtain ⟨b1, hb1⟩ : ∃ r_, b.rd (c.PC + 1) = r_ := ⟨_, rfl⟩
  have Fb1 : b1.fit 21 := by rw [← hb1]; exact hf.rd
  obtain ⟨z2, hz2⟩ : ∃ r_, b1.get (z1) = r_ := ⟨_, rfl⟩
  obtain ⟨b2, hb2⟩ : ∃ r_, b1.rd (z1) = r_ := ⟨_, rfl⟩
  have Fb2 : b2.fit 22 := by rw [← hb2]; exact Fb1.rd
  obtain ⟨y, hy⟩ : ∃ r_, (z1 + c.X) % 256 = r_ := ⟨_, rfl⟩
  have HP : placeN b c 4 k = (y, b2) := by simp [placeN, baseN, hz1, hb1, hz2, hb2, hy, idxN]
  rw [HP]
  dsimp only
  have S0 := Sit.one h hF (.cells (cpuCells c) 28)
  have q0 : BoxN (w.alloc (.cells (cpuCells c) 28)) w.heap.size 28 (cpuCells c) := BoxN.new _ _ _
  have Hz1 := Lib.hid hz1
  have Hb1 := Lib.hid hb1
  have Hz2 := Lib.hid hz2
  have Hb2 := Lib.hid hb2
  have Hy := Lib.hid hy
  clear HP hz1 hb1 hz2 hb2 hy
  go_enter Try.func88, Try.ntmps88
  go_wp2_with fail
  refine (S0.rd _ (c.PC + 1) (by omega) (by omega) (hf.mono (by omega)) Hz1.out Hb1.out).mono ?_
  rintro e w2 ⟨rfl, t1⟩
  have q3 := t1.box _ _ _ (Nat.le_refl _) (by omega) q0
  have S4 := t1.sit
  have z1b : z1 < 256 := by rw [← Hz1.out]; exact S0.bus.byte _
  clear q0 S0 t1
  obtain ⟨g0, g1, g2, g3, g4, g5, g6, g7, g8, g9, g10, f0⟩ := eleven q3
  go_wp2_with fail
  refine (S4.rd _ (z1) (by omega) (by omega) (Fb1.mono (by omega)) Hz2.out Hb2.out).mono ?_
  rintro e w7 ⟨rfl, t6⟩
  have q8 := t6.box _ _ _ (Nat.le_refl _) (by omega) q3
  have S9 := t6.sit
  have z2b : z2 < 256 := by rw [← Hz2.out]; exact S4.bus.byte _
  clear g0 g1 g2 g3 g4 g5 g6 g7 g8 g9 g10 f0
  clear q3 S4 t6
  obtain ⟨g0, g1, g2, g3, g4, g5, g6, g7, g8, g9, g10, f0⟩ := eleven q8
  go_wp2_with fail
  refine (index_at c hc' 4 (by omega) (by omega) (show idxN c 4 = c.X by simp [idxN]) _).mono ?_
  rintro e w12 ⟨rfl, d11⟩
  have q13 := q8.below d11
  have S14 := S9.below d11
  clear g0 g1 g2 g3 g4 g5 g6 g7 g8 g9 g10 f0
  clear q8 S9 d11
  obtain ⟨g0, g1, g2, g3, g4, g5, g6, g7, g8, g9, g10, f0⟩ := eleven q13
  have hA8 := and8 (z1 + c.X) y Hy.out
  rw [Int.natCast_add] at hA8
  go_wp2
  refine bodyPost_ret (v := .int .i64 (y : Nat)) (by simp [results, Try.results88, go_sem, hA8]) rfl ⟨rfl, S14.out⟩

set_option maxRecDepth 100000 in
theorem place_5 (F : Nat → Prop) (B : Nat) (b : BusN) (c : CpuN) (hc : c.ok) (k : Int) (hf : b.fit 20) (w : World) (hF : ∀ i, w.heap.size ≤ i → F i) (h : BusAt w F B b) :
    Calls Try.prog 88 #[.pointer (some ⟨B, 0, none⟩), cpuV c, .int .i64 5, .int .i64 k] w fun e w' => e = .returned (.int .i64 ((placeN b c 5 k).1 : Nat)) ∧ BusAt w' F B (placeN b c 5 k).2 ∧ Turn F w w' := by
  have hc' := hc
  obtain ⟨hA, hX, hY, hS, hP⟩ := hc
  obtain ⟨z1, hz1⟩ : ∃ r_, b.get (c.PC + 1) = r_ := ⟨_, rfl⟩
  obtain ⟨b1, hb1⟩ : ∃ r_, b.rd (c.PC + 1) = r_ := ⟨_, rfl⟩
  have Fb1 : b1.fit 21 := by rw [← hb1]; exact hf.rd
  obtain ⟨z2, hz2⟩ : ∃ r_, b1.get (z1) = r_ := ⟨_, rfl⟩
  obtain ⟨b2, hb2⟩ : ∃ r_, b1.rd (z1) = r_ := ⟨_, rfl⟩
  have Fb2 : b2.fit 22 := by rw [← hb2]; exact Fb1.rd
  obtain ⟨y, hy⟩ : ∃ r_, (z1 + c.Y) % 256 = r_ := ⟨_, rfl⟩
  have HP : placeN b c 5 k = (y, b2) := by simp [placeN, baseN, hz1, hb1, hz2, hb2, hy, idxN]
  rw [HP]
  dsimp only
  have S0 := Sit.one h hF (.cells (cpuCells c) 28)
  have q0 : BoxN (w.alloc (.cells (cpuCells c) 28)) w.heap.size 28 (cpuCells c) := BoxN.new _ _ _
  have Hz1 := Lib.hid hz1
  have Hb1 := Lib.hid hb1
  have Hz2 := Lib.hid hz2
  have Hb2 := Lib.hid hb2
  have Hy := Lib.hid hy
  clear HP hz1 hb1 hz2 hb2 hy
  go_enter Try.func88, Try.ntmps88
  go_wp2_with fail
  refine (S0.rd _ (c.PC + 1) (by omega) (by omega) (hf.mono (by omega)) Hz1.out Hb1.out).mono ?_
  rintro e w2 ⟨rfl, t1⟩
  have q3 := t1.box _ _ _ (Nat.le_refl _) (by omega) q0
  have S4 := t1.sit
  have z1b : z1 < 256 := by rw [← Hz1.out]; exact S0.bus.byte _
  clear q0 S0 t1
  obtain ⟨g0, g1, g2, g3, g4, g5, g6, g7, g8, g9, g10, f0⟩ := eleven q3
  go_wp2_with fail
  refine (S4.rd _ (z1) (by omega) (by omega) (Fb1.mono (by omega)) Hz2.out Hb2.out).mono ?_
  rintro e w7 ⟨rfl, t6⟩
  have q8 := t6.box _ _ _ (Nat.le_refl _) (by omega) q3
  have S9 := t6.sit
  have z2b : z2 < 256 := by rw [← Hz2.out]; exact S4.bus.byte _
  clear g0 g1 g2 g3 g4 g5 g6 g7 g8 g9 g10 f0
  clear q3 S4 t6
  obtain ⟨g0, g1, g2, g3, g4, g5, g6, g7, g8, g9, g10, f0⟩ := eleven q8
  go_wp2_with fail
  refine (index_at c hc' 5 (by omega) (by omega) (show idxN c 5 = c.Y by simp [idxN]) _).mono ?_
  rintro e w12 ⟨rfl, d11⟩
  have q13 := q8.below d11
  have S14 := S9.below d11
  clear g0 g1 g2 g3 g4 g5 g6 g7 g8 g9 g10 f0
  clear q8 S9 d11
  obtain ⟨g0, g1, g2, g3, g4, g5, g6, g7, g8, g9, g10, f0⟩ := eleven q13
  have hA8 := and8 (z1 + c.Y) y Hy.out
  rw [Int.natCast_add] at hA8
  go_wp2
  refine bodyPost_ret (v := .int .i64 (y : Nat)) (by simp [results, Try.results88, go_sem, hA8]) rfl ⟨rfl, S14.out⟩

set_option maxRecDepth 100000 in
theorem place_10 (F : Nat → Prop) (B : Nat) (b : BusN) (c : CpuN) (hc : c.ok) (k : Int) (hf : b.fit 20) (w : World) (hF : ∀ i, w.heap.size ≤ i → F i) (h : BusAt w F B b) :
    Calls Try.prog 88 #[.pointer (some ⟨B, 0, none⟩), cpuV c, .int .i64 10, .int .i64 k] w fun e w' => e = .returned (.int .i64 ((placeN b c 10 k).1 : Nat)) ∧ BusAt w' F B (placeN b c 10 k).2 ∧ Turn F w w' := by
  have hc' := hc
  obtain ⟨hA, hX, hY, hS, hP⟩ := hc
  obtain ⟨z1, hz1⟩ : ∃ r_, b.get (c.PC + 1) = r_ := ⟨_, rfl⟩
  obtain ⟨b1, hb1⟩ : ∃ r_, b.rd (c.PC + 1) = r_ := ⟨_, rfl⟩
  have Fb1 : b1.fit 21 := by rw [← hb1]; exact hf.rd
  obtain ⟨z2, hz2⟩ : ∃ r_, b1.get (z1) = r_ := ⟨_, rfl⟩
  obtain ⟨b2, hb2⟩ : ∃ r_, b1.rd (z1) = r_ := ⟨_, rfl⟩
  have Fb2 : b2.fit 22 := by rw [← hb2]; exact Fb1.rd
  obtain ⟨y, hy⟩ : ∃ r_, (z1 + c.X) % 256 = r_ := ⟨_, rfl⟩
  have yb : y < 256 := by omega
  obtain ⟨v, hv⟩ : ∃ r_, (z1 + c.X + 1) % 256 = r_ := ⟨_, rfl⟩
  have vb : v < 256 := by omega
  obtain ⟨z3, hz3⟩ : ∃ r_, b2.get (y) = r_ := ⟨_, rfl⟩
  obtain ⟨b3, hb3⟩ : ∃ r_, b2.rd (y) = r_ := ⟨_, rfl⟩
  have Fb3 : b3.fit 23 := by rw [← hb3]; exact Fb2.rd
  obtain ⟨z4, hz4⟩ : ∃ r_, b3.get (v) = r_ := ⟨_, rfl⟩
  obtain ⟨b4, hb4⟩ : ∃ r_, b3.rd (v) = r_ := ⟨_, rfl⟩
  have Fb4 : b4.fit 24 := by rw [← hb4]; exact Fb3.rd
  obtain ⟨u, hu⟩ : ∃ r_, word z3 z4 = r_ := ⟨_, rfl⟩
  have HP : placeN b c 10 k = (u, b4) := by simp [placeN, baseN, hz1, hb1, hz2, hb2, hy, hv, hz3, hb3, hz4, hb4, hu]
  rw [HP]
  dsimp only
  have S0 := Sit.one h hF (.cells (cpuCells c) 28)
  have q0 : BoxN (w.alloc (.cells (cpuCells c) 28)) w.heap.size 28 (cpuCells c) := BoxN.new _ _ _
  have Hz1 := Lib.hid hz1
  have Hb1 := Lib.hid hb1
  have Hz2 := Lib.hid hz2
  have Hb2 := Lib.hid hb2
  have Hy := Lib.hid hy
  have Hv := Lib.hid hv
  have Hz3 := Lib.hid hz3
  have Hb3 := Lib.hid hb3
  have Hz4 := Lib.hid hz4
  have Hb4 := Lib.hid hb4
  have Hu := Lib.hid hu
  clear HP hz1 hb1 hz2 hb2 hy hv hz3 hb3 hz4 hb4 hu
  go_enter Try.func88, Try.ntmps88
  go_wp2_with fail
  refine (S0.rd _ (c.PC + 1) (by omega) (by omega) (hf.mono (by omega)) Hz1.out Hb1.out).mono ?_
  rintro e w2 ⟨rfl, t1⟩
  have q3 := t1.box _ _ _ (Nat.le_refl _) (by omega) q0
  have S4 := t1.sit
  have z1b : z1 < 256 := by rw [← Hz1.out]; exact S0.bus.byte _
  clear q0 S0 t1
  obtain ⟨g0, g1, g2, g3, g4, g5, g6, g7, g8, g9, g10, f0⟩ := eleven q3
  go_wp2_with fail
  refine (S4.rd _ (z1) (by omega) (by omega) (Fb1.mono (by omega)) Hz2.out Hb2.out).mono ?_
  rintro e w7 ⟨rfl, t6⟩
  have q8 := t6.box _ _ _ (Nat.le_refl _) (by omega) q3
  have S9 := t6.sit
  have z2b : z2 < 256 := by rw [← Hz2.out]; exact S4.bus.byte _
  clear g0 g1 g2 g3 g4 g5 g6 g7 g8 g9 g10 f0
  clear q3 S4 t6
  obtain ⟨g0, g1, g2, g3, g4, g5, g6, g7, g8, g9, g10, f0⟩ := eleven q8
  go_wp2_with fail
  refine (S9.rd _ (y) (by have := and8 (z1 + c.X) y Hy.out; rw [Int.natCast_add] at this; exact this) (by omega) (Fb2.mono (by omega)) Hz3.out Hb3.out).mono ?_
  rintro e w12 ⟨rfl, t11⟩
  have q13 := t11.box _ _ _ (Nat.le_refl _) (by omega) q8
  have S14 := t11.sit
  have z3b : z3 < 256 := by rw [← Hz3.out]; exact S9.bus.byte _
  clear g0 g1 g2 g3 g4 g5 g6 g7 g8 g9 g10 f0
  clear q8 S9 t11
  obtain ⟨g0, g1, g2, g3, g4, g5, g6, g7, g8, g9, g10, f0⟩ := eleven q13
  go_wp2_with fail
  refine (S14.rd _ (v) (by have := and8 (z1 + c.X + 1) v Hv.out; rw [Int.natCast_add, Int.natCast_add] at this; exact this) (by omega) (Fb3.mono (by omega)) Hz4.out Hb4.out).mono ?_
  rintro e w17 ⟨rfl, t16⟩
  have q18 := t16.box _ _ _ (Nat.le_refl _) (by omega) q13
  have S19 := t16.sit
  have z4b : z4 < 256 := by rw [← Hz4.out]; exact S14.bus.byte _
  clear g0 g1 g2 g3 g4 g5 g6 g7 g8 g9 g10 f0
  clear q13 S14 t16
  obtain ⟨g0, g1, g2, g3, g4, g5, g6, g7, g8, g9, g10, f0⟩ := eleven q18
  go_wp2_with fail
  refine (word_at z3 z4 z3b z4b Hu.out _).mono ?_
  rintro e w21 ⟨rfl, rfl⟩
  go_wp2
  refine bodyPost_ret (v := .int .i64 (u : Nat)) (by simp [results, Try.results88, go_sem]) rfl ⟨rfl, S19.out⟩

set_option maxRecDepth 100000 in
theorem place_6 (F : Nat → Prop) (B : Nat) (b : BusN) (c : CpuN) (hc : c.ok) (k : Int) (hf : b.fit 20) (w : World) (hF : ∀ i, w.heap.size ≤ i → F i) (h : BusAt w F B b) :
    Calls Try.prog 88 #[.pointer (some ⟨B, 0, none⟩), cpuV c, .int .i64 6, .int .i64 k] w fun e w' => e = .returned (.int .i64 ((placeN b c 6 k).1 : Nat)) ∧ BusAt w' F B (placeN b c 6 k).2 ∧ Turn F w w' := by
  have hc' := hc
  obtain ⟨hA, hX, hY, hS, hP⟩ := hc
  obtain ⟨z1, hz1⟩ : ∃ r_, b.get (c.PC + 1) = r_ := ⟨_, rfl⟩
  obtain ⟨b1, hb1⟩ : ∃ r_, b.rd (c.PC + 1) = r_ := ⟨_, rfl⟩
  have Fb1 : b1.fit 21 := by rw [← hb1]; exact hf.rd
  obtain ⟨z2, hz2⟩ : ∃ r_, b1.get (c.PC + 2) = r_ := ⟨_, rfl⟩
  obtain ⟨b2, hb2⟩ : ∃ r_, b1.rd (c.PC + 2) = r_ := ⟨_, rfl⟩
  have Fb2 : b2.fit 22 := by rw [← hb2]; exact Fb1.rd
  obtain ⟨u, hu⟩ : ∃ r_, word z1 z2 = r_ := ⟨_, rfl⟩
  obtain ⟨e, he⟩ : ∃ r_, u % 65536 = r_ := ⟨_, rfl⟩
  have eb : e < 65536 := by omega
  obtain ⟨v2, hv2⟩ : ∃ r_, u / 256 * 256 + e % 256 = r_ := ⟨_, rfl⟩
  have HP : placeN b c 6 k = (e, b2) := by simp [placeN, baseN, hz1, hb1, hz2, hb2, hu, he, hv2, idxN]
  rw [HP]
  dsimp only
  have S0 := Sit.one h hF (.cells (cpuCells c) 28)
  have q0 : BoxN (w.alloc (.cells (cpuCells c) 28)) w.heap.size 28 (cpuCells c) := BoxN.new _ _ _
  have Hz1 := Lib.hid hz1
  have Hb1 := Lib.hid hb1
  have Hz2 := Lib.hid hz2
  have Hb2 := Lib.hid hb2
  have Hu := Lib.hid hu
  have He := Lib.hid he
  have Hv2 := Lib.hid hv2
  clear HP hz1 hb1 hz2 hb2 hu he hv2
  go_enter Try.func88, Try.ntmps88
  go_wp2_with fail
  refine (S0.rd _ (c.PC + 1) (by omega) (by omega) (hf.mono (by omega)) Hz1.out Hb1.out).mono ?_
  rintro e w2 ⟨rfl, t1⟩
  have q3 := t1.box _ _ _ (Nat.le_refl _) (by omega) q0
  have S4 := t1.sit
  have z1b : z1 < 256 := by rw [← Hz1.out]; exact S0.bus.byte _
  clear q0 S0 t1
  obtain ⟨g0, g1, g2, g3, g4, g5, g6, g7, g8, g9, g10, f0⟩ := eleven q3
  go_wp2_with fail
  refine (S4.rd _ (c.PC + 2) (by omega) (by omega) (Fb1.mono (by omega)) Hz2.out Hb2.out).mono ?_
  rintro e w7 ⟨rfl, t6⟩
  have q8 := t6.box _ _ _ (Nat.le_refl _) (by omega) q3
  have S9 := t6.sit
  have z2b : z2 < 256 := by rw [← Hz2.out]; exact S4.bus.byte _
  clear g0 g1 g2 g3 g4 g5 g6 g7 g8 g9 g10 f0
  clear q3 S4 t6
  obtain ⟨g0, g1, g2, g3, g4, g5, g6, g7, g8, g9, g10, f0⟩ := eleven q8
  go_wp2_with fail
  refine (word_at z1 z2 z1b z2b Hu.out _).mono ?_
  rintro e w11 ⟨rfl, rfl⟩
  have ub : u < 65536 := by rw [← Hu.out]; unfold word; omega
  go_wp2_with fail
  refine (index_at c hc' 6 (by omega) (by omega) (show idxN c 6 = 0 by simp [idxN]) _).mono ?_
  rintro e w13 ⟨rfl, d12⟩
  have q14 := q8.below d12
  have S15 := S9.below d12
  clear g0 g1 g2 g3 g4 g5 g6 g7 g8 g9 g10 f0
  clear q8 S9 d12
  obtain ⟨g0, g1, g2, g3, g4, g5, g6, g7, g8, g9, g10, f0⟩ := eleven q14
  have hE := and16 u e (by omega) He.out
  have HE := Lib.hid hE
  clear hE
  go_wp2
  have hE := HE.out
  refine bodyPost_ret (v := .int .i64 (e : Nat)) (by simp [results, Try.results88, go_sem, hE]) rfl ⟨rfl, S15.out⟩

set_option maxRecDepth 100000 in
theorem place_7_other (F : Nat → Prop) (B : Nat) (b : BusN) (c : CpuN) (hc : c.ok) (k : Int) (hk : (k != 2) = true) (hf : b.fit 20) (w : World) (hF : ∀ i, w.heap.size ≤ i → F i) (h : BusAt w F B b) :
    Calls Try.prog 88 #[.pointer (some ⟨B, 0, none⟩), cpuV c, .int .i64 7, .int .i64 k] w fun e w' => e = .returned (.int .i64 ((placeN b c 7 k).1 : Nat)) ∧ BusAt w' F B (placeN b c 7 k).2 ∧ Turn F w w' := by
  have hc' := hc
  obtain ⟨hA, hX, hY, hS, hP⟩ := hc
  obtain ⟨z1, hz1⟩ : ∃ r_, b.get (c.PC + 1) = r_ := ⟨_, rfl⟩
  obtain ⟨b1, hb1⟩ : ∃ r_, b.rd (c.PC + 1) = r_ := ⟨_, rfl⟩
  have Fb1 : b1.fit 21 := by rw [← hb1]; exact hf.rd
  obtain ⟨z2, hz2⟩ : ∃ r_, b1.get (c.PC + 2) = r_ := ⟨_, rfl⟩
  obtain ⟨b2, hb2⟩ : ∃ r_, b1.rd (c.PC + 2) = r_ := ⟨_, rfl⟩
  have Fb2 : b2.fit 22 := by rw [← hb2]; exact Fb1.rd
  obtain ⟨u, hu⟩ : ∃ r_, word z1 z2 = r_ := ⟨_, rfl⟩
  obtain ⟨e, he⟩ : ∃ r_, (u + c.X) % 65536 = r_ := ⟨_, rfl⟩
  have eb : e < 65536 := by omega
  obtain ⟨v2, hv2⟩ : ∃ r_, u / 256 * 256 + e % 256 = r_ := ⟨_, rfl⟩
  obtain ⟨z3, hz3⟩ : ∃ r_, b2.get (v2) = r_ := ⟨_, rfl⟩
  obtain ⟨b3, hb3⟩ : ∃ r_, b2.rd (v2) = r_ := ⟨_, rfl⟩
  have Fb3 : b3.fit 23 := by rw [← hb3]; exact Fb2.rd
  have HP : placeN b c 7 k = (e, b3) := by 
    have hk2 : ¬ k = 2 := by simpa using hk
    simp [placeN, baseN, hz1, hb1, hz2, hb2, hu, he, hv2, hz3, hb3, idxN, hk2]
  rw [HP]
  dsimp only
  have S0 := Sit.one h hF (.cells (cpuCells c) 28)
  have q0 : BoxN (w.alloc (.cells (cpuCells c) 28)) w.heap.size 28 (cpuCells c) := BoxN.new _ _ _
  have Hz1 := Lib.hid hz1
  have Hb1 := Lib.hid hb1
  have Hz2 := Lib.hid hz2
  have Hb2 := Lib.hid hb2
  have Hu := Lib.hid hu
  have He := Lib.hid he
  have Hv2 := Lib.hid hv2
  have Hz3 := Lib.hid hz3
  have Hb3 := Lib.hid hb3
  clear HP hz1 hb1 hz2 hb2 hu he hv2 hz3 hb3
  go_enter Try.func88, Try.ntmps88
  go_wp2_with fail
  refine (S0.rd _ (c.PC + 1) (by omega) (by omega) (hf.mono (by omega)) Hz1.out Hb1.out).mono ?_
  rintro e w2 ⟨rfl, t1⟩
  have q3 := t1.box _ _ _ (Nat.le_refl _) (by omega) q0
  have S4 := t1.sit
  have z1b : z1 < 256 := by rw [← Hz1.out]; exact S0.bus.byte _
  clear q0 S0 t1
  obtain ⟨g0, g1, g2, g3, g4, g5, g6, g7, g8, g9, g10, f0⟩ := eleven q3
  go_wp2_with fail
  refine (S4.rd _ (c.PC + 2) (by omega) (by omega) (Fb1.mono (by omega)) Hz2.out Hb2.out).mono ?_
  rintro e w7 ⟨rfl, t6⟩
  have q8 := t6.box _ _ _ (Nat.le_refl _) (by omega) q3
  have S9 := t6.sit
  have z2b : z2 < 256 := by rw [← Hz2.out]; exact S4.bus.byte _
  clear g0 g1 g2 g3 g4 g5 g6 g7 g8 g9 g10 f0
  clear q3 S4 t6
  obtain ⟨g0, g1, g2, g3, g4, g5, g6, g7, g8, g9, g10, f0⟩ := eleven q8
  go_wp2_with fail
  refine (word_at z1 z2 z1b z2b Hu.out _).mono ?_
  rintro e w11 ⟨rfl, rfl⟩
  have ub : u < 65536 := by rw [← Hu.out]; unfold word; omega
  go_wp2_with fail
  refine (index_at c hc' 7 (by omega) (by omega) (show idxN c 7 = c.X by simp [idxN]) _).mono ?_
  rintro e w13 ⟨rfl, d12⟩
  have q14 := q8.below d12
  have S15 := S9.below d12
  clear g0 g1 g2 g3 g4 g5 g6 g7 g8 g9 g10 f0
  clear q8 S9 d12
  obtain ⟨g0, g1, g2, g3, g4, g5, g6, g7, g8, g9, g10, f0⟩ := eleven q14
  have HE := Lib.hid (and16 (u + c.X) e (by omega) He.out)
  have HV := Lib.hid (page_of u (u + c.X) e v2 (by omega) HE.out (by omega) Hv2.out)
  rw [Int.natCast_add] at HE HV
  go_wp2_with fail
  refine (S15.rd _ (v2) HV.out (by rw [← Hv2.out]; omega) (Fb2.mono (by omega)) Hz3.out Hb3.out).mono ?_
  rintro e w18 ⟨rfl, t17⟩
  have q19 := t17.box _ _ _ (Nat.le_refl _) (by omega) q14
  have S20 := t17.sit
  have z3b : z3 < 256 := by rw [← Hz3.out]; exact S15.bus.byte _
  clear g0 g1 g2 g3 g4 g5 g6 g7 g8 g9 g10 f0
  clear q14 S15 t17
  obtain ⟨g0, g1, g2, g3, g4, g5, g6, g7, g8, g9, g10, f0⟩ := eleven q19
  go_wp2
  refine bodyPost_ret (v := .int .i64 (e : Nat)) (by simp [results, Try.results88, go_sem, HE.out]) rfl ⟨rfl, S20.out⟩

set_option maxRecDepth 100000 in
theorem place_7_cross (F : Nat → Prop) (B : Nat) (b : BusN) (c : CpuN) (hc : c.ok) (hcase : ¬ wCase b c 7) (hf : b.fit 20) (w : World) (hF : ∀ i, w.heap.size ≤ i → F i) (h : BusAt w F B b) :
    Calls Try.prog 88 #[.pointer (some ⟨B, 0, none⟩), cpuV c, .int .i64 7, .int .i64 2] w fun e w' => e = .returned (.int .i64 ((placeN b c 7 2).1 : Nat)) ∧ BusAt w' F B (placeN b c 7 2).2 ∧ Turn F w w' := by
  have hc' := hc
  obtain ⟨hA, hX, hY, hS, hP⟩ := hc
  obtain ⟨z1, hz1⟩ : ∃ r_, b.get (c.PC + 1) = r_ := ⟨_, rfl⟩
  obtain ⟨b1, hb1⟩ : ∃ r_, b.rd (c.PC + 1) = r_ := ⟨_, rfl⟩
  have Fb1 : b1.fit 21 := by rw [← hb1]; exact hf.rd
  obtain ⟨z2, hz2⟩ : ∃ r_, b1.get (c.PC + 2) = r_ := ⟨_, rfl⟩
  obtain ⟨b2, hb2⟩ : ∃ r_, b1.rd (c.PC + 2) = r_ := ⟨_, rfl⟩
  have Fb2 : b2.fit 22 := by rw [← hb2]; exact Fb1.rd
  obtain ⟨u, hu⟩ : ∃ r_, word z1 z2 = r_ := ⟨_, rfl⟩
  obtain ⟨e, he⟩ : ∃ r_, (u + c.X) % 65536 = r_ := ⟨_, rfl⟩
  have eb : e < 65536 := by omega
  obtain ⟨v2, hv2⟩ : ∃ r_, u / 256 * 256 + e % 256 = r_ := ⟨_, rfl⟩
  obtain ⟨z3, hz3⟩ : ∃ r_, b2.get (v2) = r_ := ⟨_, rfl⟩
  obtain ⟨b3, hb3⟩ : ∃ r_, b2.rd (v2) = r_ := ⟨_, rfl⟩
  have Fb3 : b3.fit 23 := by rw [← hb3]; exact Fb2.rd
  have hne : ¬ v2 = e := by
    have := hcase
    simp only [wCase, baseN, hz1, hb1, hz2, hb2, hu, he, hv2, hz3, hb3, idxN] at this
    simpa [hz1, hb1, hz2, hb2, hu, he, hv2, hz3, hb3] using this
  have HP : placeN b c 7 2 = (e, b3) := by simp [placeN, baseN, hz1, hb1, hz2, hb2, hu, he, hv2, hz3, hb3, idxN, hne]
  rw [HP]
  dsimp only
  have S0 := Sit.one h hF (.cells (cpuCells c) 28)
  have q0 : BoxN (w.alloc (.cells (cpuCells c) 28)) w.heap.size 28 (cpuCells c) := BoxN.new _ _ _
  have Hz1 := Lib.hid hz1
  have Hb1 := Lib.hid hb1
  have Hz2 := Lib.hid hz2
  have Hb2 := Lib.hid hb2
  have Hu := Lib.hid hu
  have He := Lib.hid he
  have Hv2 := Lib.hid hv2
  have Hz3 := Lib.hid hz3
  have Hb3 := Lib.hid hb3
  clear HP hz1 hb1 hz2 hb2 hu he hv2 hz3 hb3
  go_enter Try.func88, Try.ntmps88
  go_wp2_with fail
  refine (S0.rd _ (c.PC + 1) (by omega) (by omega) (hf.mono (by omega)) Hz1.out Hb1.out).mono ?_
  rintro e w2 ⟨rfl, t1⟩
  have q3 := t1.box _ _ _ (Nat.le_refl _) (by omega) q0
  have S4 := t1.sit
  have z1b : z1 < 256 := by rw [← Hz1.out]; exact S0.bus.byte _
  clear q0 S0 t1
  obtain ⟨g0, g1, g2, g3, g4, g5, g6, g7, g8, g9, g10, f0⟩ := eleven q3
  go_wp2_with fail
  refine (S4.rd _ (c.PC + 2) (by omega) (by omega) (Fb1.mono (by omega)) Hz2.out Hb2.out).mono ?_
  rintro e w7 ⟨rfl, t6⟩
  have q8 := t6.box _ _ _ (Nat.le_refl _) (by omega) q3
  have S9 := t6.sit
  have z2b : z2 < 256 := by rw [← Hz2.out]; exact S4.bus.byte _
  clear g0 g1 g2 g3 g4 g5 g6 g7 g8 g9 g10 f0
  clear q3 S4 t6
  obtain ⟨g0, g1, g2, g3, g4, g5, g6, g7, g8, g9, g10, f0⟩ := eleven q8
  go_wp2_with fail
  refine (word_at z1 z2 z1b z2b Hu.out _).mono ?_
  rintro e w11 ⟨rfl, rfl⟩
  have ub : u < 65536 := by rw [← Hu.out]; unfold word; omega
  go_wp2_with fail
  refine (index_at c hc' 7 (by omega) (by omega) (show idxN c 7 = c.X by simp [idxN]) _).mono ?_
  rintro e w13 ⟨rfl, d12⟩
  have q14 := q8.below d12
  have S15 := S9.below d12
  clear g0 g1 g2 g3 g4 g5 g6 g7 g8 g9 g10 f0
  clear q8 S9 d12
  obtain ⟨g0, g1, g2, g3, g4, g5, g6, g7, g8, g9, g10, f0⟩ := eleven q14
  have HE := Lib.hid (and16 (u + c.X) e (by omega) He.out)
  have HV := Lib.hid (page_of u (u + c.X) e v2 (by omega) HE.out (by omega) Hv2.out)
  rw [Int.natCast_add] at HE HV
  have hT : (wrap64 ((u : Int) / 256 * 256 + (bits .and .i64 ((u : Int) + (c.X : Int)) 65535).tmod 256) != bits .and .i64 ((u : Int) + (c.X : Int)) 65535) = true := by rw [HV.out, HE.out]; simpa using fun h => hne (by omega)
  go_wp2_with fail
  refine (S15.rd _ (v2) HV.out (by rw [← Hv2.out]; omega) (Fb2.mono (by omega)) Hz3.out Hb3.out).mono ?_
  rintro e w18 ⟨rfl, t17⟩
  have q19 := t17.box _ _ _ (Nat.le_refl _) (by omega) q14
  have S20 := t17.sit
  have z3b : z3 < 256 := by rw [← Hz3.out]; exact S15.bus.byte _
  clear g0 g1 g2 g3 g4 g5 g6 g7 g8 g9 g10 f0
  clear q14 S15 t17
  obtain ⟨g0, g1, g2, g3, g4, g5, g6, g7, g8, g9, g10, f0⟩ := eleven q19
  go_wp2
  refine bodyPost_ret (v := .int .i64 (e : Nat)) (by simp [results, Try.results88, go_sem, HE.out]) rfl ⟨rfl, S20.out⟩

set_option maxRecDepth 100000 in
theorem place_7_same (F : Nat → Prop) (B : Nat) (b : BusN) (c : CpuN) (hc : c.ok) (hcase :  wCase b c 7) (hf : b.fit 20) (w : World) (hF : ∀ i, w.heap.size ≤ i → F i) (h : BusAt w F B b) :
    Calls Try.prog 88 #[.pointer (some ⟨B, 0, none⟩), cpuV c, .int .i64 7, .int .i64 2] w fun e w' => e = .returned (.int .i64 ((placeN b c 7 2).1 : Nat)) ∧ BusAt w' F B (placeN b c 7 2).2 ∧ Turn F w w' := by
  have hc' := hc
  obtain ⟨hA, hX, hY, hS, hP⟩ := hc
  obtain ⟨z1, hz1⟩ : ∃ r_, b.get (c.PC + 1) = r_ := ⟨_, rfl⟩
  obtain ⟨b1, hb1⟩ : ∃ r_, b.rd (c.PC + 1) = r_ := ⟨_, rfl⟩
  have Fb1 : b1.fit 21 := by rw [← hb1]; exact hf.rd
  obtain ⟨z2, hz2⟩ : ∃ r_, b1.get (c.PC + 2) = r_ := ⟨_, rfl⟩
  obtain ⟨b2, hb2⟩ : ∃ r_, b1.rd (c.PC + 2) = r_ := ⟨_, rfl⟩
  have Fb2 : b2.fit 22 := by rw [← hb2]; exact Fb1.rd
  obtain ⟨u, hu⟩ : ∃ r_, word z1 z2 = r_ := ⟨_, rfl⟩
  obtain ⟨e, he⟩ : ∃ r_, (u + c.X) % 65536 = r_ := ⟨_, rfl⟩
  have eb : e < 65536 := by omega
  obtain ⟨v2, hv2⟩ : ∃ r_, u / 256 * 256 + e % 256 = r_ := ⟨_, rfl⟩
  have hne :  v2 = e := by
    have := hcase
    simp only [wCase, baseN, hz1, hb1, hz2, hb2, hu, he, hv2, idxN] at this
    simpa [hz1, hb1, hz2, hb2, hu, he, hv2] using this
  have HP : placeN b c 7 2 = (e, b2) := by simp [placeN, baseN, hz1, hb1, hz2, hb2, hu, he, hv2, idxN, hne]
  rw [HP]
  dsimp only
  have S0 := Sit.one h hF (.cells (cpuCells c) 28)
  have q0 : BoxN (w.alloc (.cells (cpuCells c) 28)) w.heap.size 28 (cpuCells c) := BoxN.new _ _ _
  have Hz1 := Lib.hid hz1
  have Hb1 := Lib.hid hb1
  have Hz2 := Lib.hid hz2
  have Hb2 := Lib.hid hb2
  have Hu := Lib.hid hu
  have He := Lib.hid he
  have Hv2 := Lib.hid hv2
  clear HP hz1 hb1 hz2 hb2 hu he hv2
  go_enter Try.func88, Try.ntmps88
  go_wp2_with fail
  refine (S0.rd _ (c.PC + 1) (by omega) (by omega) (hf.mono (by omega)) Hz1.out Hb1.out).mono ?_
  rintro e w2 ⟨rfl, t1⟩
  have q3 := t1.box _ _ _ (Nat.le_refl _) (by omega) q0
  have S4 := t1.sit
  have z1b : z1 < 256 := by rw [← Hz1.out]; exact S0.bus.byte _
  clear q0 S0 t1
  obtain ⟨g0, g1, g2, g3, g4, g5, g6, g7, g8, g9, g10, f0⟩ := eleven q3
  go_wp2_with fail
  refine (S4.rd _ (c.PC + 2) (by omega) (by omega) (Fb1.mono (by omega)) Hz2.out Hb2.out).mono ?_
  rintro e w7 ⟨rfl, t6⟩
  have q8 := t6.box _ _ _ (Nat.le_refl _) (by omega) q3
  have S9 := t6.sit
  have z2b : z2 < 256 := by rw [← Hz2.out]; exact S4.bus.byte _
  clear g0 g1 g2 g3 g4 g5 g6 g7 g8 g9 g10 f0
  clear q3 S4 t6
  obtain ⟨g0, g1, g2, g3, g4, g5, g6, g7, g8, g9, g10, f0⟩ := eleven q8
  go_wp2_with fail
  refine (word_at z1 z2 z1b z2b Hu.out _).mono ?_
  rintro e w11 ⟨rfl, rfl⟩
  have ub : u < 65536 := by rw [← Hu.out]; unfold word; omega
  go_wp2_with fail
  refine (index_at c hc' 7 (by omega) (by omega) (show idxN c 7 = c.X by simp [idxN]) _).mono ?_
  rintro e w13 ⟨rfl, d12⟩
  have q14 := q8.below d12
  have S15 := S9.below d12
  clear g0 g1 g2 g3 g4 g5 g6 g7 g8 g9 g10 f0
  clear q8 S9 d12
  obtain ⟨g0, g1, g2, g3, g4, g5, g6, g7, g8, g9, g10, f0⟩ := eleven q14
  have HE := Lib.hid (and16 (u + c.X) e (by omega) He.out)
  have HV := Lib.hid (page_of u (u + c.X) e v2 (by omega) HE.out (by omega) Hv2.out)
  rw [Int.natCast_add] at HE HV
  have hT : (wrap64 ((u : Int) / 256 * 256 + (bits .and .i64 ((u : Int) + (c.X : Int)) 65535).tmod 256) != bits .and .i64 ((u : Int) + (c.X : Int)) 65535) = false := by rw [HV.out, HE.out, hne]; simp
  go_wp2
  refine bodyPost_ret (v := .int .i64 (e : Nat)) (by simp [results, Try.results88, go_sem, HE.out]) rfl ⟨rfl, S15.out⟩

set_option maxRecDepth 100000 in
theorem place_8_other (F : Nat → Prop) (B : Nat) (b : BusN) (c : CpuN) (hc : c.ok) (k : Int) (hk : (k != 2) = true) (hf : b.fit 20) (w : World) (hF : ∀ i, w.heap.size ≤ i → F i) (h : BusAt w F B b) :
    Calls Try.prog 88 #[.pointer (some ⟨B, 0, none⟩), cpuV c, .int .i64 8, .int .i64 k] w fun e w' => e = .returned (.int .i64 ((placeN b c 8 k).1 : Nat)) ∧ BusAt w' F B (placeN b c 8 k).2 ∧ Turn F w w' := by
  have hc' := hc
  obtain ⟨hA, hX, hY, hS, hP⟩ := hc
  obtain ⟨z1, hz1⟩ : ∃ r_, b.get (c.PC + 1) = r_ := ⟨_, rfl⟩
  obtain ⟨b1, hb1⟩ : ∃ r_, b.rd (c.PC + 1) = r_ := ⟨_, rfl⟩
  have Fb1 : b1.fit 21 := by rw [← hb1]; exact hf.rd
  obtain ⟨z2, hz2⟩ : ∃ r_, b1.get (c.PC + 2) = r_ := ⟨_, rfl⟩
  obtain ⟨b2, hb2⟩ : ∃ r_, b1.rd (c.PC + 2) = r_ := ⟨_, rfl⟩
  have Fb2 : b2.fit 22 := by rw [← hb2]; exact Fb1.rd
  obtain ⟨u, hu⟩ : ∃ r_, word z1 z2 = r_ := ⟨_, rfl⟩
  obtain ⟨e, he⟩ : ∃ r_, (u + c.Y) % 65536 = r_ := ⟨_, rfl⟩
  have eb : e < 65536 := by omega
  obtain ⟨v2, hv2⟩ : ∃ r_, u / 256 * 256 + e % 256 = r_ := ⟨_, rfl⟩
  obtain ⟨z3, hz3⟩ : ∃ r_, b2.get (v2) = r_ := ⟨_, rfl⟩
  obtain ⟨b3, hb3⟩ : ∃ r_, b2.rd (v2) = r_ := ⟨_, rfl⟩
  have Fb3 : b3.fit 23 := by rw [← hb3]; exact Fb2.rd
  have HP : placeN b c 8 k = (e, b3) := by 
    have hk2 : ¬ k = 2 := by simpa using hk
    simp [placeN, baseN, hz1, hb1, hz2, hb2, hu, he, hv2, hz3, hb3, idxN, hk2]
  rw [HP]
  dsimp only
  have S0 := Sit.one h hF (.cells (cpuCells c) 28)
  have q0 : BoxN (w.alloc (.cells (cpuCells c) 28)) w.heap.size 28 (cpuCells c) := BoxN.new _ _ _
  have Hz1 := Lib.hid hz1
  have Hb1 := Lib.hid hb1
  have Hz2 := Lib.hid hz2
  have Hb2 := Lib.hid hb2
  have Hu := Lib.hid hu
  have He := Lib.hid he
  have Hv2 := Lib.hid hv2
  have Hz3 := Lib.hid hz3
  have Hb3 := Lib.hid hb3
  clear HP hz1 hb1 hz2 hb2 hu he hv2 hz3 hb3
  go_enter Try.func88, Try.ntmps88
  go_wp2_with fail
  refine (S0.rd _ (c.PC + 1) (by omega) (by omega) (hf.mono (by omega)) Hz1.out Hb1.out).mono ?_
  rintro e w2 ⟨rfl, t1⟩
  have q3 := t1.box _ _ _ (Nat.le_refl _) (by omega) q0
  have S4 := t1.sit
  have z1b : z1 < 256 := by rw [← Hz1.out]; exact S0.bus.byte _
  clear q0 S0 t1
  obtain ⟨g0, g1, g2, g3, g4, g5, g6, g7, g8, g9, g10, f0⟩ := eleven q3
  go_wp2_with fail
  refine (S4.rd _ (c.PC + 2) (by omega) (by omega) (Fb1.mono (by omega)) Hz2.out Hb2.out).mono ?_
  rintro e w7 ⟨rfl, t6⟩
  have q8 := t6.box _ _ _ (Nat.le_refl _) (by omega) q3
  have S9 := t6.sit
  have z2b : z2 < 256 := by rw [← Hz2.out]; exact S4.bus.byte _
  clear g0 g1 g2 g3 g4 g5 g6 g7 g8 g9 g10 f0
  clear q3 S4 t6
  obtain ⟨g0, g1, g2, g3, g4, g5, g6, g7, g8, g9, g10, f0⟩ := eleven q8
  go_wp2_with fail
  refine (word_at z1 z2 z1b z2b Hu.out _).mono ?_
  rintro e w11 ⟨rfl, rfl⟩
  have ub : u < 65536 := by rw [← Hu.out]; unfold word; omega
  go_wp2_with fail
  refine (index_at c hc' 8 (by omega) (by omega) (show idxN c 8 = c.Y by simp [idxN]) _).mono ?_
  rintro e w13 ⟨rfl, d12⟩
  have q14 := q8.below d12
  have S15 := S9.below d12
  clear g0 g1 g2 g3 g4 g5 g6 g7 g8 g9 g10 f0
  clear q8 S9 d12
  obtain ⟨g0, g1, g2, g3, g4, g5, g6, g7, g8, g9, g10, f0⟩ := eleven q14
  have HE := Lib.hid (and16 (u + c.Y) e (by omega) He.out)
  have HV := Lib.hid (page_of u (u + c.Y) e v2 (by omega) HE.out (by omega) Hv2.out)
  rw [Int.natCast_add] at HE HV
  go_wp2_with fail
  refine (S15.rd _ (v2) HV.out (by rw [← Hv2.out]; omega) (Fb2.mono (by omega)) Hz3.out Hb3.out).mono ?_
  rintro e w18 ⟨rfl, t17⟩
  have q19 := t17.box _ _ _ (Nat.le_refl _) (by omega) q14
  have S20 := t17.sit
  have z3b : z3 < 256 := by rw [← Hz3.out]; exact S15.bus.byte _
  clear g0 g1 g2 g3 g4 g5 g6 g7 g8 g9 g10 f0
  clear q14 S15 t17
  obtain ⟨g0, g1, g2, g3, g4, g5, g6, g7, g8, g9, g10, f0⟩ := eleven q19
  go_wp2
  refine bodyPost_ret (v := .int .i64 (e : Nat)) (by simp [results, Try.results88, go_sem, HE.out]) rfl ⟨rfl, S20.out⟩

set_option maxRecDepth 100000 in
theorem place_8_cross (F : Nat → Prop) (B : Nat) (b : BusN) (c : CpuN) (hc : c.ok) (hcase : ¬ wCase b c 8) (hf : b.fit 20) (w : World) (hF : ∀ i, w.heap.size ≤ i → F i) (h : BusAt w F B b) :
    Calls Try.prog 88 #[.pointer (some ⟨B, 0, none⟩), cpuV c, .int .i64 8, .int .i64 2] w fun e w' => e = .returned (.int .i64 ((placeN b c 8 2).1 : Nat)) ∧ BusAt w' F B (placeN b c 8 2).2 ∧ Turn F w w' := by
  have hc' := hc
  obtain ⟨hA, hX, hY, hS, hP⟩ := hc
  obtain ⟨z1, hz1⟩ : ∃ r_, b.get (c.PC + 1) = r_ := ⟨_, rfl⟩
  obtain ⟨b1, hb1⟩ : ∃ r_, b.rd (c.PC + 1) = r_ := ⟨_, rfl⟩
  have Fb1 : b1.fit 21 := by rw [← hb1]; exact hf.rd
  obtain ⟨z2, hz2⟩ : ∃ r_, b1.get (c.PC + 2) = r_ := ⟨_, rfl⟩
  obtain ⟨b2, hb2⟩ : ∃ r_, b1.rd (c.PC + 2) = r_ := ⟨_, rfl⟩
  have Fb2 : b2.fit 22 := by rw [← hb2]; exact Fb1.rd
  obtain ⟨u, hu⟩ : ∃ r_, word z1 z2 = r_ := ⟨_, rfl⟩
  obtain ⟨e, he⟩ : ∃ r_, (u + c.Y) % 65536 = r_ := ⟨_, rfl⟩
  have eb : e < 65536 := by omega
  obtain ⟨v2, hv2⟩ : ∃ r_, u / 256 * 256 + e % 256 = r_ := ⟨_, rfl⟩
  obtain ⟨z3, hz3⟩ : ∃ r_, b2.get (v2) = r_ := ⟨_, rfl⟩
  obtain ⟨b3, hb3⟩ : ∃ r_, b2.rd (v2) = r_ := ⟨_, rfl⟩
  have Fb3 : b3.fit 23 := by rw [← hb3]; exact Fb2.rd
  have hne : ¬ v2 = e := by
    have := hcase
    simp only [wCase, baseN, hz1, hb1, hz2, hb2, hu, he, hv2, hz3, hb3, idxN] at this
    simpa [hz1, hb1, hz2, hb2, hu, he, hv2, hz3, hb3] using this
  have HP : placeN b c 8 2 = (e, b3) := by simp [placeN, baseN, hz1, hb1, hz2, hb2, hu, he, hv2, hz3, hb3, idxN, hne]
  rw [HP]
  dsimp only
  have S0 := Sit.one h hF (.cells (cpuCells c) 28)
  have q0 : BoxN (w.alloc (.cells (cpuCells c) 28)) w.heap.size 28 (cpuCells c) := BoxN.new _ _ _
  have Hz1 := Lib.hid hz1
  have Hb1 := Lib.hid hb1
  have Hz2 := Lib.hid hz2
  have Hb2 := Lib.hid hb2
  have Hu := Lib.hid hu
  have He := Lib.hid he
  have Hv2 := Lib.hid hv2
  have Hz3 := Lib.hid hz3
  have Hb3 := Lib.hid hb3
  clear HP hz1 hb1 hz2 hb2 hu he hv2 hz3 hb3
  go_enter Try.func88, Try.ntmps88
  go_wp2_with fail
  refine (S0.rd _ (c.PC + 1) (by omega) (by omega) (hf.mono (by omega)) Hz1.out Hb1.out).mono ?_
  rintro e w2 ⟨rfl, t1⟩
  have q3 := t1.box _ _ _ (Nat.le_refl _) (by omega) q0
  have S4 := t1.sit
  have z1b : z1 < 256 := by rw [← Hz1.out]; exact S0.bus.byte _
  clear q0 S0 t1
  obtain ⟨g0, g1, g2, g3, g4, g5, g6, g7, g8, g9, g10, f0⟩ := eleven q3
  go_wp2_with fail
  refine (S4.rd _ (c.PC + 2) (by omega) (by omega) (Fb1.mono (by omega)) Hz2.out Hb2.out).mono ?_
  rintro e w7 ⟨rfl, t6⟩
  have q8 := t6.box _ _ _ (Nat.le_refl _) (by omega) q3
  have S9 := t6.sit
  have z2b : z2 < 256 := by rw [← Hz2.out]; exact S4.bus.byte _
  clear g0 g1 g2 g3 g4 g5 g6 g7 g8 g9 g10 f0
  clear q3 S4 t6
  obtain ⟨g0, g1, g2, g3, g4, g5, g6, g7, g8, g9, g10, f0⟩ := eleven q8
  go_wp2_with fail
  refine (word_at z1 z2 z1b z2b Hu.out _).mono ?_
  rintro e w11 ⟨rfl, rfl⟩
  have ub : u < 65536 := by rw [← Hu.out]; unfold word; omega
  go_wp2_with fail
  refine (index_at c hc' 8 (by omega) (by omega) (show idxN c 8 = c.Y by simp [idxN]) _).mono ?_
  rintro e w13 ⟨rfl, d12⟩
  have q14 := q8.below d12
  have S15 := S9.below d12
  clear g0 g1 g2 g3 g4 g5 g6 g7 g8 g9 g10 f0
  clear q8 S9 d12
  obtain ⟨g0, g1, g2, g3, g4, g5, g6, g7, g8, g9, g10, f0⟩ := eleven q14
  have HE := Lib.hid (and16 (u + c.Y) e (by omega) He.out)
  have HV := Lib.hid (page_of u (u + c.Y) e v2 (by omega) HE.out (by omega) Hv2.out)
  rw [Int.natCast_add] at HE HV
  have hT : (wrap64 ((u : Int) / 256 * 256 + (bits .and .i64 ((u : Int) + (c.Y : Int)) 65535).tmod 256) != bits .and .i64 ((u : Int) + (c.Y : Int)) 65535) = true := by rw [HV.out, HE.out]; simpa using fun h => hne (by omega)
  go_wp2_with fail
  refine (S15.rd _ (v2) HV.out (by rw [← Hv2.out]; omega) (Fb2.mono (by omega)) Hz3.out Hb3.out).mono ?_
  rintro e w18 ⟨rfl, t17⟩
  have q19 := t17.box _ _ _ (Nat.le_refl _) (by omega) q14
  have S20 := t17.sit
  have z3b : z3 < 256 := by rw [← Hz3.out]; exact S15.bus.byte _
  clear g0 g1 g2 g3 g4 g5 g6 g7 g8 g9 g10 f0
  clear q14 S15 t17
  obtain ⟨g0, g1, g2, g3, g4, g5, g6, g7, g8, g9, g10, f0⟩ := eleven q19
  go_wp2
  refine bodyPost_ret (v := .int .i64 (e : Nat)) (by simp [results, Try.results88, go_sem, HE.out]) rfl ⟨rfl, S20.out⟩

set_option maxRecDepth 100000 in
theorem place_8_same (F : Nat → Prop) (B : Nat) (b : BusN) (c : CpuN) (hc : c.ok) (hcase :  wCase b c 8) (hf : b.fit 20) (w : World) (hF : ∀ i, w.heap.size ≤ i → F i) (h : BusAt w F B b) :
    Calls Try.prog 88 #[.pointer (some ⟨B, 0, none⟩), cpuV c, .int .i64 8, .int .i64 2] w fun e w' => e = .returned (.int .i64 ((placeN b c 8 2).1 : Nat)) ∧ BusAt w' F B (placeN b c 8 2).2 ∧ Turn F w w' := by
  have hc' := hc
  obtain ⟨hA, hX, hY, hS, hP⟩ := hc
  obtain ⟨z1, hz1⟩ : ∃ r_, b.get (c.PC + 1) = r_ := ⟨_, rfl⟩
  obtain ⟨b1, hb1⟩ : ∃ r_, b.rd (c.PC + 1) = r_ := ⟨_, rfl⟩
  have Fb1 : b1.fit 21 := by rw [← hb1]; exact hf.rd
  obtain ⟨z2, hz2⟩ : ∃ r_, b1.get (c.PC + 2) = r_ := ⟨_, rfl⟩
  obtain ⟨b2, hb2⟩ : ∃ r_, b1.rd (c.PC + 2) = r_ := ⟨_, rfl⟩
  have Fb2 : b2.fit 22 := by rw [← hb2]; exact Fb1.rd
  obtain ⟨u, hu⟩ : ∃ r_, word z1 z2 = r_ := ⟨_, rfl⟩
  obtain ⟨e, he⟩ : ∃ r_, (u + c.Y) % 65536 = r_ := ⟨_, rfl⟩
  have eb : e < 65536 := by omega
  obtain ⟨v2, hv2⟩ : ∃ r_, u / 256 * 256 + e % 256 = r_ := ⟨_, rfl⟩
  have hne :  v2 = e := by
    have := hcase
    simp only [wCase, baseN, hz1, hb1, hz2, hb2, hu, he, hv2, idxN] at this
    simpa [hz1, hb1, hz2, hb2, hu, he, hv2] using this
  have HP : placeN b c 8 2 = (e, b2) := by simp [placeN, baseN, hz1, hb1, hz2, hb2, hu, he, hv2, idxN, hne]
  rw [HP]
  dsimp only
  have S0 := Sit.one h hF (.cells (cpuCells c) 28)
  have q0 : BoxN (w.alloc (.cells (cpuCells c) 28)) w.heap.size 28 (cpuCells c) := BoxN.new _ _ _
  have Hz1 := Lib.hid hz1
  have Hb1 := Lib.hid hb1
  have Hz2 := Lib.hid hz2
  have Hb2 := Lib.hid hb2
  have Hu := Lib.hid hu
  have He := Lib.hid he
  have Hv2 := Lib.hid hv2
  clear HP hz1 hb1 hz2 hb2 hu he hv2
  go_enter Try.func88, Try.ntmps88
  go_wp2_with fail
  refine (S0.rd _ (c.PC + 1) (by omega) (by omega) (hf.mono (by omega)) Hz1.out Hb1.out).mono ?_
  rintro e w2 ⟨rfl, t1⟩
  have q3 := t1.box _ _ _ (Nat.le_refl _) (by omega) q0
  have S4 := t1.sit
  have z1b : z1 < 256 := by rw [← Hz1.out]; exact S0.bus.byte _
  clear q0 S0 t1
  obtain ⟨g0, g1, g2, g3, g4, g5, g6, g7, g8, g9, g10, f0⟩ := eleven q3
  go_wp2_with fail
  refine (S4.rd _ (c.PC + 2) (by omega) (by omega) (Fb1.mono (by omega)) Hz2.out Hb2.out).mono ?_
  rintro e w7 ⟨rfl, t6⟩
  have q8 := t6.box _ _ _ (Nat.le_refl _) (by omega) q3
  have S9 := t6.sit
  have z2b : z2 < 256 := by rw [← Hz2.out]; exact S4.bus.byte _
  clear g0 g1 g2 g3 g4 g5 g6 g7 g8 g9 g10 f0
  clear q3 S4 t6
  obtain ⟨g0, g1, g2, g3, g4, g5, g6, g7, g8, g9, g10, f0⟩ := eleven q8
  go_wp2_with fail
  refine (word_at z1 z2 z1b z2b Hu.out _).mono ?_
  rintro e w11 ⟨rfl, rfl⟩
  have ub : u < 65536 := by rw [← Hu.out]; unfold word; omega
  go_wp2_with fail
  refine (index_at c hc' 8 (by omega) (by omega) (show idxN c 8 = c.Y by simp [idxN]) _).mono ?_
  rintro e w13 ⟨rfl, d12⟩
  have q14 := q8.below d12
  have S15 := S9.below d12
  clear g0 g1 g2 g3 g4 g5 g6 g7 g8 g9 g10 f0
  clear q8 S9 d12
  obtain ⟨g0, g1, g2, g3, g4, g5, g6, g7, g8, g9, g10, f0⟩ := eleven q14
  have HE := Lib.hid (and16 (u + c.Y) e (by omega) He.out)
  have HV := Lib.hid (page_of u (u + c.Y) e v2 (by omega) HE.out (by omega) Hv2.out)
  rw [Int.natCast_add] at HE HV
  have hT : (wrap64 ((u : Int) / 256 * 256 + (bits .and .i64 ((u : Int) + (c.Y : Int)) 65535).tmod 256) != bits .and .i64 ((u : Int) + (c.Y : Int)) 65535) = false := by rw [HV.out, HE.out, hne]; simp
  go_wp2
  refine bodyPost_ret (v := .int .i64 (e : Nat)) (by simp [results, Try.results88, go_sem, HE.out]) rfl ⟨rfl, S15.out⟩

set_option maxRecDepth 100000 in
theorem place_11_other (F : Nat → Prop) (B : Nat) (b : BusN) (c : CpuN) (hc : c.ok) (k : Int) (hk : (k != 2) = true) (hf : b.fit 20) (w : World) (hF : ∀ i, w.heap.size ≤ i → F i) (h : BusAt w F B b) :
    Calls Try.prog 88 #[.pointer (some ⟨B, 0, none⟩), cpuV c, .int .i64 11, .int .i64 k] w fun e w' => e = .returned (.int .i64 ((placeN b c 11 k).1 : Nat)) ∧ BusAt w' F B (placeN b c 11 k).2 ∧ Turn F w w' := by
  have hc' := hc
  obtain ⟨hA, hX, hY, hS, hP⟩ := hc
  obtain ⟨z1, hz1⟩ : ∃ r_, b.get (c.PC + 1) = r_ := ⟨_, rfl⟩
  obtain ⟨b1, hb1⟩ : ∃ r_, b.rd (c.PC + 1) = r_ := ⟨_, rfl⟩
  have Fb1 : b1.fit 21 := by rw [← hb1]; exact hf.rd
  obtain ⟨z2, hz2⟩ : ∃ r_, b1.get (z1) = r_ := ⟨_, rfl⟩
  obtain ⟨b2, hb2⟩ : ∃ r_, b1.rd (z1) = r_ := ⟨_, rfl⟩
  have Fb2 : b2.fit 22 := by rw [← hb2]; exact Fb1.rd
  obtain ⟨v, hv⟩ : ∃ r_, (z1 + 1) % 256 = r_ := ⟨_, rfl⟩
  have vb : v < 256 := by omega
  obtain ⟨z3, hz3⟩ : ∃ r_, b2.get (v) = r_ := ⟨_, rfl⟩
  obtain ⟨b3, hb3⟩ : ∃ r_, b2.rd (v) = r_ := ⟨_, rfl⟩
  have Fb3 : b3.fit 23 := by rw [← hb3]; exact Fb2.rd
  obtain ⟨u, hu⟩ : ∃ r_, word z2 z3 = r_ := ⟨_, rfl⟩
  obtain ⟨e, he⟩ : ∃ r_, (u + c.Y) % 65536 = r_ := ⟨_, rfl⟩
  have eb : e < 65536 := by omega
  obtain ⟨v2, hv2⟩ : ∃ r_, u / 256 * 256 + e % 256 = r_ := ⟨_, rfl⟩
  obtain ⟨z4, hz4⟩ : ∃ r_, b3.get (v2) = r_ := ⟨_, rfl⟩
  obtain ⟨b4, hb4⟩ : ∃ r_, b3.rd (v2) = r_ := ⟨_, rfl⟩
  have Fb4 : b4.fit 24 := by rw [← hb4]; exact Fb3.rd
  have HP : placeN b c 11 k = (e, b4) := by 
    have hk2 : ¬ k = 2 := by simpa using hk
    simp [placeN, baseN, hz1, hb1, hz2, hb2, hv, hz3, hb3, hu, he, hv2, hz4, hb4, idxN, hk2]
  rw [HP]
  dsimp only
  have S0 := Sit.one h hF (.cells (cpuCells c) 28)
  have q0 : BoxN (w.alloc (.cells (cpuCells c) 28)) w.heap.size 28 (cpuCells c) := BoxN.new _ _ _
  have Hz1 := Lib.hid hz1
  have Hb1 := Lib.hid hb1
  have Hz2 := Lib.hid hz2
  have Hb2 := Lib.hid hb2
  have Hv := Lib.hid hv
  have Hz3 := Lib.hid hz3
  have Hb3 := Lib.hid hb3
  have Hu := Lib.hid hu
  have He := Lib.hid he
  have Hv2 := Lib.hid hv2
  have Hz4 := Lib.hid hz4
  have Hb4 := Lib.hid hb4
  clear HP hz1 hb1 hz2 hb2 hv hz3 hb3 hu he hv2 hz4 hb4
  go_enter Try.func88, Try.ntmps88
  go_wp2_with fail
  refine (S0.rd _ (c.PC + 1) (by omega) (by omega) (hf.mono (by omega)) Hz1.out Hb1.out).mono ?_
  rintro e w2 ⟨rfl, t1⟩
  have q3 := t1.box _ _ _ (Nat.le_refl _) (by omega) q0
  have S4 := t1.sit
  have z1b : z1 < 256 := by rw [← Hz1.out]; exact S0.bus.byte _
  clear q0 S0 t1
  obtain ⟨g0, g1, g2, g3, g4, g5, g6, g7, g8, g9, g10, f0⟩ := eleven q3
  go_wp2_with fail
  refine (S4.rd _ (z1) (by omega) (by omega) (Fb1.mono (by omega)) Hz2.out Hb2.out).mono ?_
  rintro e w7 ⟨rfl, t6⟩
  have q8 := t6.box _ _ _ (Nat.le_refl _) (by omega) q3
  have S9 := t6.sit
  have z2b : z2 < 256 := by rw [← Hz2.out]; exact S4.bus.byte _
  clear g0 g1 g2 g3 g4 g5 g6 g7 g8 g9 g10 f0
  clear q3 S4 t6
  obtain ⟨g0, g1, g2, g3, g4, g5, g6, g7, g8, g9, g10, f0⟩ := eleven q8
  go_wp2_with fail
  refine (S9.rd _ (v) (by have := and8 (z1 + 1) v Hv.out; rw [Int.natCast_add] at this; exact this) (by omega) (Fb2.mono (by omega)) Hz3.out Hb3.out).mono ?_
  rintro e w12 ⟨rfl, t11⟩
  have q13 := t11.box _ _ _ (Nat.le_refl _) (by omega) q8
  have S14 := t11.sit
  have z3b : z3 < 256 := by rw [← Hz3.out]; exact S9.bus.byte _
  clear g0 g1 g2 g3 g4 g5 g6 g7 g8 g9 g10 f0
  clear q8 S9 t11
  obtain ⟨g0, g1, g2, g3, g4, g5, g6, g7, g8, g9, g10, f0⟩ := eleven q13
  go_wp2_with fail
  refine (word_at z2 z3 z2b z3b Hu.out _).mono ?_
  rintro e w16 ⟨rfl, rfl⟩
  have ub : u < 65536 := by rw [← Hu.out]; unfold word; omega
  go_wp2_with fail
  refine (index_at c hc' 11 (by omega) (by omega) (show idxN c 11 = c.Y by simp [idxN]) _).mono ?_
  rintro e w18 ⟨rfl, d17⟩
  have q19 := q13.below d17
  have S20 := S14.below d17
  clear g0 g1 g2 g3 g4 g5 g6 g7 g8 g9 g10 f0
  clear q13 S14 d17
  obtain ⟨g0, g1, g2, g3, g4, g5, g6, g7, g8, g9, g10, f0⟩ := eleven q19
  have HE := Lib.hid (and16 (u + c.Y) e (by omega) He.out)
  have HV := Lib.hid (page_of u (u + c.Y) e v2 (by omega) HE.out (by omega) Hv2.out)
  rw [Int.natCast_add] at HE HV
  go_wp2_with fail
  refine (S20.rd _ (v2) HV.out (by rw [← Hv2.out]; omega) (Fb3.mono (by omega)) Hz4.out Hb4.out).mono ?_
  rintro e w23 ⟨rfl, t22⟩
  have q24 := t22.box _ _ _ (Nat.le_refl _) (by omega) q19
  have S25 := t22.sit
  have z4b : z4 < 256 := by rw [← Hz4.out]; exact S20.bus.byte _
  clear g0 g1 g2 g3 g4 g5 g6 g7 g8 g9 g10 f0
  clear q19 S20 t22
  obtain ⟨g0, g1, g2, g3, g4, g5, g6, g7, g8, g9, g10, f0⟩ := eleven q24
  go_wp2
  refine bodyPost_ret (v := .int .i64 (e : Nat)) (by simp [results, Try.results88, go_sem, HE.out]) rfl ⟨rfl, S25.out⟩

set_option maxRecDepth 100000 in
theorem place_11_cross (F : Nat → Prop) (B : Nat) (b : BusN) (c : CpuN) (hc : c.ok) (hcase : ¬ wCase b c 11) (hf : b.fit 20) (w : World) (hF : ∀ i, w.heap.size ≤ i → F i) (h : BusAt w F B b) :
    Calls Try.prog 88 #[.pointer (some ⟨B, 0, none⟩), cpuV c, .int .i64 11, .int .i64 2] w fun e w' => e = .returned (.int .i64 ((placeN b c 11 2).1 : Nat)) ∧ BusAt w' F B (placeN b c 11 2).2 ∧ Turn F w w' := by
  have hc' := hc
  obtain ⟨hA, hX, hY, hS, hP⟩ := hc
  obtain ⟨z1, hz1⟩ : ∃ r_, b.get (c.PC + 1) = r_ := ⟨_, rfl⟩
  obtain ⟨b1, hb1⟩ : ∃ r_, b.rd (c.PC + 1) = r_ := ⟨_, rfl⟩
  have Fb1 : b1.fit 21 := by rw [← hb1]; exact hf.rd
  obtain ⟨z2, hz2⟩ : ∃ r_, b1.get (z1) = r_ := ⟨_, rfl⟩
  obtain ⟨b2, hb2⟩ : ∃ r_, b1.rd (z1) = r_ := ⟨_, rfl⟩
  have Fb2 : b2.fit 22 := by rw [← hb2]; exact Fb1.rd
  obtain ⟨v, hv⟩ : ∃ r_, (z1 + 1) % 256 = r_ := ⟨_, rfl⟩
  have vb : v < 256 := by omega
  obtain ⟨z3, hz3⟩ : ∃ r_, b2.get (v) = r_ := ⟨_, rfl⟩
  obtain ⟨b3, hb3⟩ : ∃ r_, b2.rd (v) = r_ := ⟨_, rfl⟩
  have Fb3 : b3.fit 23 := by rw [← hb3]; exact Fb2.rd
  obtain ⟨u, hu⟩ : ∃ r_, word z2 z3 = r_ := ⟨_, rfl⟩
  obtain ⟨e, he⟩ : ∃ r_, (u + c.Y) % 65536 = r_ := ⟨_, rfl⟩
  have eb : e < 65536 := by omega
  obtain ⟨v2, hv2⟩ : ∃ r_, u / 256 * 256 + e % 256 = r_ := ⟨_, rfl⟩
  obtain ⟨z4, hz4⟩ : ∃ r_, b3.get (v2) = r_ := ⟨_, rfl⟩
  obtain ⟨b4, hb4⟩ : ∃ r_, b3.rd (v2) = r_ := ⟨_, rfl⟩
  have Fb4 : b4.fit 24 := by rw [← hb4]; exact Fb3.rd
  have hne : ¬ v2 = e := by
    have := hcase
    simp only [wCase, baseN, hz1, hb1, hz2, hb2, hv, hz3, hb3, hu, he, hv2, hz4, hb4, idxN] at this
    simpa [hz1, hb1, hz2, hb2, hv, hz3, hb3, hu, he, hv2, hz4, hb4] using this
  have HP : placeN b c 11 2 = (e, b4) := by simp [placeN, baseN, hz1, hb1, hz2, hb2, hv, hz3, hb3, hu, he, hv2, hz4, hb4, idxN, hne]
  rw [HP]
  dsimp only
  have S0 := Sit.one h hF (.cells (cpuCells c) 28)
  have q0 : BoxN (w.alloc (.cells (cpuCells c) 28)) w.heap.size 28 (cpuCells c) := BoxN.new _ _ _
  have Hz1 := Lib.hid hz1
  have Hb1 := Lib.hid hb1
  have Hz2 := Lib.hid hz2
  have Hb2 := Lib.hid hb2
  have Hv := Lib.hid hv
  have Hz3 := Lib.hid hz3
  have Hb3 := Lib.hid hb3
  have Hu := Lib.hid hu
  have He := Lib.hid he
  have Hv2 := Lib.hid hv2
  have Hz4 := Lib.hid hz4
  have Hb4 := Lib.hid hb4
  clear HP hz1 hb1 hz2 hb2 hv hz3 hb3 hu he hv2 hz4 hb4
  go_enter Try.func88, Try.ntmps88
  go_wp2_with fail
  refine (S0.rd _ (c.PC + 1) (by omega) (by omega) (hf.mono (by omega)) Hz1.out Hb1.out).mono ?_
  rintro e w2 ⟨rfl, t1⟩
  have q3 := t1.box _ _ _ (Nat.le_refl _) (by omega) q0
  have S4 := t1.sit
  have z1b : z1 < 256 := by rw [← Hz1.out]; exact S0.bus.byte _
  clear q0 S0 t1
  obtain ⟨g0, g1, g2, g3, g4, g5, g6, g7, g8, g9, g10, f0⟩ := eleven q3
  go_wp2_with fail
  refine (S4.rd _ (z1) (by omega) (by omega) (Fb1.mono (by omega)) Hz2.out Hb2.out).mono ?_
  rintro e w7 ⟨rfl, t6⟩
  have q8 := t6.box _ _ _ (Nat.le_refl _) (by omega) q3
  have S9 := t6.sit
  have z2b : z2 < 256 := by rw [← Hz2.out]; exact S4.bus.byte _
  clear g0 g1 g2 g3 g4 g5 g6 g7 g8 g9 g10 f0
  clear q3 S4 t6
  obtain ⟨g0, g1, g2, g3, g4, g5, g6, g7, g8, g9, g10, f0⟩ := eleven q8
  go_wp2_with fail
  refine (S9.rd _ (v) (by have := and8 (z1 + 1) v Hv.out; rw [Int.natCast_add] at this; exact this) (by omega) (Fb2.mono (by omega)) Hz3.out Hb3.out).mono ?_
  rintro e w12 ⟨rfl, t11⟩
  have q13 := t11.box _ _ _ (Nat.le_refl _) (by omega) q8
  have S14 := t11.sit
  have z3b : z3 < 256 := by rw [← Hz3.out]; exact S9.bus.byte _
  clear g0 g1 g2 g3 g4 g5 g6 g7 g8 g9 g10 f0
  clear q8 S9 t11
  obtain ⟨g0, g1, g2, g3, g4, g5, g6, g7, g8, g9, g10, f0⟩ := eleven q13
  go_wp2_with fail
  refine (word_at z2 z3 z2b z3b Hu.out _).mono ?_
  rintro e w16 ⟨rfl, rfl⟩
  have ub : u < 65536 := by rw [← Hu.out]; unfold word; omega
  go_wp2_with fail
  refine (index_at c hc' 11 (by omega) (by omega) (show idxN c 11 = c.Y by simp [idxN]) _).mono ?_
  rintro e w18 ⟨rfl, d17⟩
  have q19 := q13.below d17
  have S20 := S14.below d17
  clear g0 g1 g2 g3 g4 g5 g6 g7 g8 g9 g10 f0
  clear q13 S14 d17
  obtain ⟨g0, g1, g2, g3, g4, g5, g6, g7, g8, g9, g10, f0⟩ := eleven q19
  have HE := Lib.hid (and16 (u + c.Y) e (by omega) He.out)
  have HV := Lib.hid (page_of u (u + c.Y) e v2 (by omega) HE.out (by omega) Hv2.out)
  rw [Int.natCast_add] at HE HV
  have hT : (wrap64 ((u : Int) / 256 * 256 + (bits .and .i64 ((u : Int) + (c.Y : Int)) 65535).tmod 256) != bits .and .i64 ((u : Int) + (c.Y : Int)) 65535) = true := by rw [HV.out, HE.out]; simpa using fun h => hne (by omega)
  go_wp2_with fail
  refine (S20.rd _ (v2) HV.out (by rw [← Hv2.out]; omega) (Fb3.mono (by omega)) Hz4.out Hb4.out).mono ?_
  rintro e w23 ⟨rfl, t22⟩
  have q24 := t22.box _ _ _ (Nat.le_refl _) (by omega) q19
  have S25 := t22.sit
  have z4b : z4 < 256 := by rw [← Hz4.out]; exact S20.bus.byte _
  clear g0 g1 g2 g3 g4 g5 g6 g7 g8 g9 g10 f0
  clear q19 S20 t22
  obtain ⟨g0, g1, g2, g3, g4, g5, g6, g7, g8, g9, g10, f0⟩ := eleven q24
  go_wp2
  refine bodyPost_ret (v := .int .i64 (e : Nat)) (by simp [results, Try.results88, go_sem, HE.out]) rfl ⟨rfl, S25.out⟩

set_option maxRecDepth 100000 in
theorem place_11_same (F : Nat → Prop) (B : Nat) (b : BusN) (c : CpuN) (hc : c.ok) (hcase :  wCase b c 11) (hf : b.fit 20) (w : World) (hF : ∀ i, w.heap.size ≤ i → F i) (h : BusAt w F B b) :
    Calls Try.prog 88 #[.pointer (some ⟨B, 0, none⟩), cpuV c, .int .i64 11, .int .i64 2] w fun e w' => e = .returned (.int .i64 ((placeN b c 11 2).1 : Nat)) ∧ BusAt w' F B (placeN b c 11 2).2 ∧ Turn F w w' := by
  have hc' := hc
  obtain ⟨hA, hX, hY, hS, hP⟩ := hc
  obtain ⟨z1, hz1⟩ : ∃ r_, b.get (c.PC + 1) = r_ := ⟨_, rfl⟩
  obtain ⟨b1, hb1⟩ : ∃ r_, b.rd (c.PC + 1) = r_ := ⟨_, rfl⟩
  have Fb1 : b1.fit 21 := by rw [← hb1]; exact hf.rd
  obtain ⟨z2, hz2⟩ : ∃ r_, b1.get (z1) = r_ := ⟨_, rfl⟩
  obtain ⟨b2, hb2⟩ : ∃ r_, b1.rd (z1) = r_ := ⟨_, rfl⟩
  have Fb2 : b2.fit 22 := by rw [← hb2]; exact Fb1.rd
  obtain ⟨v, hv⟩ : ∃ r_, (z1 + 1) % 256 = r_ := ⟨_, rfl⟩
  have vb : v < 256 := by omega
  obtain ⟨z3, hz3⟩ : ∃ r_, b2.get (v) = r_ := ⟨_, rfl⟩
  obtain ⟨b3, hb3⟩ : ∃ r_, b2.rd (v) = r_ := ⟨_, rfl⟩
  have Fb3 : b3.fit 23 := by rw [← hb3]; exact Fb2.rd
  obtain ⟨u, hu⟩ : ∃ r_, word z2 z3 = r_ := ⟨_, rfl⟩
  obtain ⟨e, he⟩ : ∃ r_, (u + c.Y) % 65536 = r_ := ⟨_, rfl⟩
  have eb : e < 65536 := by omega
  obtain ⟨v2, hv2⟩ : ∃ r_, u / 256 * 256 + e % 256 = r_ := ⟨_, rfl⟩
  have hne :  v2 = e := by
    have := hcase
    simp only [wCase, baseN, hz1, hb1, hz2, hb2, hv, hz3, hb3, hu, he, hv2, idxN] at this
    simpa [hz1, hb1, hz2, hb2, hv, hz3, hb3, hu, he, hv2] using this
  have HP : placeN b c 11 2 = (e, b3) := by simp [placeN, baseN, hz1, hb1, hz2, hb2, hv, hz3, hb3, hu, he, hv2, idxN, hne]
  rw [HP]
  dsimp only
  have S0 := Sit.one h hF (.cells (cpuCells c) 28)
  have q0 : BoxN (w.alloc (.cells (cpuCells c) 28)) w.heap.size 28 (cpuCells c) := BoxN.new _ _ _
  have Hz1 := Lib.hid hz1
  have Hb1 := Lib.hid hb1
  have Hz2 := Lib.hid hz2
  have Hb2 := Lib.hid hb2
  have Hv := Lib.hid hv
  have Hz3 := Lib.hid hz3
  have Hb3 := Lib.hid hb3
  have Hu := Lib.hid hu
  have He := Lib.hid he
  have Hv2 := Lib.hid hv2
  clear HP hz1 hb1 hz2 hb2 hv hz3 hb3 hu he hv2
  go_enter Try.func88, Try.ntmps88
  go_wp2_with fail
  refine (S0.rd _ (c.PC + 1) (by omega) (by omega) (hf.mono (by omega)) Hz1.out Hb1.out).mono ?_
  rintro e w2 ⟨rfl, t1⟩
  have q3 := t1.box _ _ _ (Nat.le_refl _) (by omega) q0
  have S4 := t1.sit
  have z1b : z1 < 256 := by rw [← Hz1.out]; exact S0.bus.byte _
  clear q0 S0 t1
  obtain ⟨g0, g1, g2, g3, g4, g5, g6, g7, g8, g9, g10, f0⟩ := eleven q3
  go_wp2_with fail
  refine (S4.rd _ (z1) (by omega) (by omega) (Fb1.mono (by omega)) Hz2.out Hb2.out).mono ?_
  rintro e w7 ⟨rfl, t6⟩
  have q8 := t6.box _ _ _ (Nat.le_refl _) (by omega) q3
  have S9 := t6.sit
  have z2b : z2 < 256 := by rw [← Hz2.out]; exact S4.bus.byte _
  clear g0 g1 g2 g3 g4 g5 g6 g7 g8 g9 g10 f0
  clear q3 S4 t6
  obtain ⟨g0, g1, g2, g3, g4, g5, g6, g7, g8, g9, g10, f0⟩ := eleven q8
  go_wp2_with fail
  refine (S9.rd _ (v) (by have := and8 (z1 + 1) v Hv.out; rw [Int.natCast_add] at this; exact this) (by omega) (Fb2.mono (by omega)) Hz3.out Hb3.out).mono ?_
  rintro e w12 ⟨rfl, t11⟩
  have q13 := t11.box _ _ _ (Nat.le_refl _) (by omega) q8
  have S14 := t11.sit
  have z3b : z3 < 256 := by rw [← Hz3.out]; exact S9.bus.byte _
  clear g0 g1 g2 g3 g4 g5 g6 g7 g8 g9 g10 f0
  clear q8 S9 t11
  obtain ⟨g0, g1, g2, g3, g4, g5, g6, g7, g8, g9, g10, f0⟩ := eleven q13
  go_wp2_with fail
  refine (word_at z2 z3 z2b z3b Hu.out _).mono ?_
  rintro e w16 ⟨rfl, rfl⟩
  have ub : u < 65536 := by rw [← Hu.out]; unfold word; omega
  go_wp2_with fail
  refine (index_at c hc' 11 (by omega) (by omega) (show idxN c 11 = c.Y by simp [idxN]) _).mono ?_
  rintro e w18 ⟨rfl, d17⟩
  have q19 := q13.below d17
  have S20 := S14.below d17
  clear g0 g1 g2 g3 g4 g5 g6 g7 g8 g9 g10 f0
  clear q13 S14 d17
  obtain ⟨g0, g1, g2, g3, g4, g5, g6, g7, g8, g9, g10, f0⟩ := eleven q19
  have HE := Lib.hid (and16 (u + c.Y) e (by omega) He.out)
  have HV := Lib.hid (page_of u (u + c.Y) e v2 (by omega) HE.out (by omega) Hv2.out)
  rw [Int.natCast_add] at HE HV
  have hT : (wrap64 ((u : Int) / 256 * 256 + (bits .and .i64 ((u : Int) + (c.Y : Int)) 65535).tmod 256) != bits .and .i64 ((u : Int) + (c.Y : Int)) 65535) = false := by rw [HV.out, HE.out, hne]; simp
  go_wp2
  refine bodyPost_ret (v := .int .i64 (e : Nat)) (by simp [results, Try.results88, go_sem, HE.out]) rfl ⟨rfl, S20.out⟩

theorem placeN_any (F : Nat → Prop) (B : Nat) (b : BusN) (c : CpuN) (hc : c.ok) (m k : Int) (hm : m = 3 ∨ m = 4 ∨ m = 5 ∨ m = 6 ∨ m = 7 ∨ m = 8 ∨ m = 10 ∨ m = 11) (hf : b.fit 20) (w : World) (hF : ∀ i, w.heap.size ≤ i → F i) (h : BusAt w F B b) :
    Calls Try.prog 88 #[.pointer (some ⟨B, 0, none⟩), cpuV c, .int .i64 m, .int .i64 k] w fun e w' => e = .returned (.int .i64 ((placeN b c m k).1 : Nat)) ∧ BusAt w' F B (placeN b c m k).2 ∧ Turn F w w' := by
  rcases hm with rfl | rfl | rfl | rfl | rfl | rfl | rfl | rfl
  · exact place_3 F B b c hc k hf w hF h
  · exact place_4 F B b c hc k hf w hF h
  · exact place_5 F B b c hc k hf w hF h
  · exact place_6 F B b c hc k hf w hF h
  · by_cases hk : k = 2
    · subst hk
      by_cases hw : wCase b c 7
      · exact place_7_same F B b c hc hw hf w hF h
      · exact place_7_cross F B b c hc hw hf w hF h
    · exact place_7_other F B b c hc k (by simpa using hk) hf w hF h
  · by_cases hk : k = 2
    · subst hk
      by_cases hw : wCase b c 8
      · exact place_8_same F B b c hc hw hf w hF h
      · exact place_8_cross F B b c hc hw hf w hF h
    · exact place_8_other F B b c hc k (by simpa using hk) hf w hF h
  · exact place_10 F B b c hc k hf w hF h
  · by_cases hk : k = 2
    · subst hk
      by_cases hw : wCase b c 11
      · exact place_11_same F B b c hc hw hf w hF h
      · exact place_11_cross F B b c hc hw hf w hF h
    · exact place_11_other F B b c hc k (by simpa using hk) hf w hF h

end Go.Proofs.Ytckfdbjjjgfbfaa
