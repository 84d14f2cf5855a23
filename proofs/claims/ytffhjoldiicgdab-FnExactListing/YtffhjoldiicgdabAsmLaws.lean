/-
  The exact laws of chapter 4, walked over any program whose functions keep these contracts.
-/
import Derived.Test.YtffhjoldiicgdabAsmD
import Derived.Test.YtffhjoldiicgdabAsmE
import Derived.Test.YtffhjoldiicgdabAsmF
import Derived.Test.YtffhjoldiicgdabAsmRows
namespace Go.Proofs.Ytffhjoldiicgdab
set_option linter.unusedVariables false
set_option linter.unusedSimpArgs false
open Go.RowKit

def ImplShow : Prop := ∀ (a : Option Addr) (n c x0 x1 x2 pc : Nat) (w : World), x0 < 256 → x1 < 256 → x2 < 256 → pc < 65536 → n ≤ c → n ≤ 1048576 → Three w a n x0 x1 x2 → Calls Try.prog 12 #[.slice a n c, .int .u16 pc] w fun e w' => e = .returned (.string (showOp n x0 x1 x2 pc)) ∧ Below w.heap.size w w'

def ImplRead : Prop := ∀ (s : ByteArray) (pc : Nat) (w : World), pc < 65536 → s.size ≤ 1048576 → Calls Try.prog 15 #[.string s, .int .u16 pc] w fun e w' => ∃ v, e = .returned (.tuple #[v, .bool (readOp s pc).isSome]) ∧ OwnB w' w.heap.size v ((readOp s pc).getD []) ∧ Below w.heap.size w w'

def ImplList : Prop := ∀ (a : Option Addr) (c org : Nat) (L : List Nat) (w : World), L.length ≤ c → L.length ≤ 1048576 → org < 65536 → RowB w a L → Calls Try.prog 19 #[.slice a L.length c, .int .u16 org] w fun e w' => ∃ v, e = .returned v ∧ OwnStrs w' w.heap.size v (listing L org) ∧ Below w.heap.size w w'

def ImplAsm : Prop := ∀ (s : ByteArray) (org : Nat) (w : World), org < 65536 → s.size ≤ 1048576 → Calls Try.prog 24 #[.string s, .int .u16 org] w fun e w' => ∃ v, e = .returned (.tuple #[v, .int .i64 (((assemble s org).2 : Nat) : Int)]) ∧ OwnB w' w.heap.size v (assemble s org).1 ∧ Below w.heap.size w w'

set_option maxRecDepth 100000 in
theorem walkShow (HI : ImplShow) (a : Option Addr) (cap pc : Nat) (L : List Nat) (w : World) (hl : L.length ≤ 1048576) (hp : pc < 65536) (hr : RowB w a L) :
    Calls Try.prog 4 #[.slice a L.length cap, .int .u16 pc] w fun e w' => e = .returned (.bool true) ∧ Below w.heap.size w w' := by
  have hbig : ¬ (1048576 : Int) < (L.length : Int) := by omega
  go_enter Try.func4, Try.ntmps4
  go_wp2_with fail
  refine (toB_any a cap L _ hl hr).mono ?_
  rintro e w1 ⟨rfl, rfl⟩
  have r1 := rowNew w L hr
  have k1 : Below w.heap.size w (w.alloc (.cells (L.map u8V).toArray 5)) := (Below.refl _ _).alloc (Nat.le_refl _) _
  go_wp2_with fail
  refine (specShow_any _ L.length L.length (L.getD 0 0) (L.getD 1 0) (L.getD 2 0) pc (r1.byte' 0) (r1.byte' 1) (r1.byte' 2) hp _ r1.three').mono ?_
  rintro e w2 ⟨rfl, b2⟩
  have k2 := k1.trans (b2.mono k1.size)
  have hr2 := hr.below k2
  obtain ⟨T, hT⟩ : ∃ T, showOp L.length (L.getD 0 0) (L.getD 1 0) (L.getD 2 0) pc = T := ⟨_, rfl⟩
  rw [hT]
  have HT := Lib.hid hT
  clear hT r1 b2 k1
  go_wp2_with fail
  refine (toB_any a cap L _ hl hr2).mono ?_
  rintro e w3 ⟨rfl, rfl⟩
  have r3 := rowNew w2 L hr2
  have k3 := k2.alloc k2.size (.cells (L.map u8V).toArray 5)
  go_wp2_with fail
  refine (HI _ L.length L.length (L.getD 0 0) (L.getD 1 0) (L.getD 2 0) pc _ (r3.byte' 0) (r3.byte' 1) (r3.byte' 2) hp (Nat.le_refl _) hl r3.three').mono ?_
  rintro e w4 ⟨rfl, b4⟩
  rw [HT.out]
  have k4 := k3.trans (b4.mono k3.size)
  have r4 := r3.below b4
  have hr4 := hr.below k4
  clear r3 b4 k3
  go_wp2_with fail
  refine (toB_any a cap L _ hl hr4).mono ?_
  rintro e w5 ⟨rfl, rfl⟩
  have r5 := rowNew w4 L hr4
  have k5 := k4.alloc k4.size (.cells (L.map u8V).toArray 5)
  have r45 := r4.below ((Below.refl _ _).alloc (Nat.le_refl _) (.cells (L.map u8V).toArray 5))
  go_wp2_with fail
  refine (eqB_true _ _ _ _ L _ (by omega) r45 r5).mono ?_
  rintro e w6 ⟨rfl, k, rfl⟩
  go_wp2
  go_ret
  exact ⟨rfl, below_drewN k5 k⟩

set_option maxRecDepth 100000 in
set_option maxHeartbeats 1600000 in
theorem walkRead (HI : ImplRead) (s : ByteArray) (pc : Nat) (hp : pc < 65536) (hs : s.size ≤ 1048576) (w : World) :
    Calls Try.prog 5 #[.string s, .int .u16 pc] w fun e w' => e = .returned (.bool true) ∧ Below w.heap.size w w' := by
  have hbig : ¬ (1048576 : Int) < (s.size : Int) := by omega
  obtain ⟨L, hL⟩ : ∃ L, (readOp s pc).getD [] = L := ⟨_, rfl⟩
  obtain ⟨r, hr⟩ : ∃ r, (readOp s pc).isSome = r := ⟨_, rfl⟩
  have HL := Lib.hid hL
  have HR := Lib.hid hr
  have hlen : L.length ≤ 1048576 := by rw [← hL]; exact readOp_small s pc
  clear hL hr
  go_enter Try.func5, Try.ntmps5
  go_wp2_with fail
  refine (specRead_any s pc hp _ hs).mono ?_
  rintro e w1 ⟨v1, rfl, o1, b1⟩
  rw [HR.out]
  rw [HL.out] at o1
  obtain ⟨a1, c1, rfl⟩ := o1.len
  go_wp2_with fail
  refine (HI s pc _ hp hs).mono ?_
  rintro e w2 ⟨v2, rfl, o2, b2⟩
  rw [HR.out]
  rw [HL.out] at o2
  obtain ⟨a2, c2, rfl⟩ := o2.len
  have o12 := o1.below b2
  have k2 := b1.trans (b2.mono b1.size)
  have hw1 := b1.size
  have hblk : ∀ k, (Value.slice a1 L.length c1).ownBlock = some k → k < w1.heap.size := fun k ek => ((World.ownsRow.lt o1.2) k ek).2
  go_wp2_with fail
  refine (eqB_true _ _ _ _ L _ (by omega) o2.row.2 o12.row.2).mono ?_
  rintro e w3 ⟨rfl, d3, rfl⟩
  have k3 := below_drewN k2 d3
  have o13 := o12.drewN d3
  have o23 := o2.drewN d3
  clear o1 o2 o12 k2 b1
  by_cases hpos : 0 < L.length
  · obtain ⟨g, cp, hv, _⟩ := o23.cells hpos
    simp only [Value.slice.injEq, true_and] at hv
    obtain ⟨rfl, rfl⟩ := hv
    have hgb := ((World.ownsRow.lt o23.2) g rfl).1
    go_wp2_with fail
    refine (markB_any g L.length c2 1 w1.heap.size L _ rfl (by omega) o23).mono ?_
    rintro e w4 ⟨rfl, o4, hg4⟩
    have k4 : Below w.heap.size w w4 := k3.grown hg4 k3.size (fun j ej => by cases ej; exact Nat.le_trans hw1 hgb)
    have o14 := ownB_ne o13 hg4 (fun k ek e => by have := hblk k ek; omega)
    go_wp2_with fail
    refine (heldB_any _ L.length c2 1 _ (by omega) o4.row.2).mono ?_
    rintro e w' ⟨rfl, rfl⟩
    go_wp2_with fail
    refine (HI s pc _ hp hs).mono ?_
    rintro e w5 ⟨v5, rfl, o5, b5⟩
    rw [HR.out]
    rw [HL.out] at o5
    obtain ⟨a5, c5, rfl⟩ := o5.len
    have o15 := o14.below b5
    have o45 := o4.below b5
    have k5 := k4.trans (b5.mono k4.size)
    go_wp2_with fail
    refine (eqB_true _ _ _ _ L _ (by omega) o5.row.2 o15.row.2).mono ?_
    rintro e w6 ⟨rfl, d6, rfl⟩
    go_wp2_with fail
    refine (heldB_any _ L.length c2 1 _ (by omega) (o45.drewN d6).row.2).mono ?_
    rintro e w' ⟨rfl, rfl⟩
    go_wp2
    go_ret
    exact ⟨rfl, below_drewN k5 d6⟩
  · have hz : L.length = 0 := by omega
    have hL0 : L = [] := List.length_eq_zero_iff.1 hz
    subst hL0
    go_wp2_with fail
    refine (markB_empty _ _ _ _).mono ?_
    rintro e w' ⟨rfl, rfl⟩
    go_wp2_with fail
    refine (heldB_any _ 0 _ 1 _ (by omega) (rowNil _ _)).mono ?_
    rintro e w' ⟨rfl, rfl⟩
    go_wp2_with fail
    refine (HI s pc _ hp hs).mono ?_
    rintro e w5 ⟨v5, rfl, o5, b5⟩
    rw [HR.out]
    rw [HL.out] at o5
    obtain ⟨a5, c5, rfl⟩ := o5.len
    have o15 := o13.below b5
    have k5 := k3.trans (b5.mono k3.size)
    go_wp2_with fail
    refine (eqB_true _ _ _ _ [] _ (by simp) o5.row.2 o15.row.2).mono ?_
    rintro e w6 ⟨rfl, d6, rfl⟩
    go_wp2_with fail
    refine (heldB_any _ 0 _ 1 _ (by omega) (rowNil _ _)).mono ?_
    rintro e w' ⟨rfl, rfl⟩
    go_wp2
    go_ret
    exact ⟨rfl, below_drewN k5 d6⟩

set_option maxRecDepth 100000 in
set_option maxHeartbeats 1600000 in
theorem walkAsm (HI : ImplAsm) (s : ByteArray) (pc : Nat) (hp : pc < 65536) (hs : s.size ≤ 1048576) (w : World) :
    Calls Try.prog 7 #[.string s, .int .u16 pc] w fun e w' => e = .returned (.bool true) ∧ Below w.heap.size w w' := by
  have hbig : ¬ (1048576 : Int) < (s.size : Int) := by omega
  obtain ⟨L, hL⟩ : ∃ L, (assemble s pc).1 = L := ⟨_, rfl⟩
  obtain ⟨r, hr⟩ : ∃ r, (((assemble s pc).2 : Nat) : Int) = r := ⟨_, rfl⟩
  have HL := Lib.hid hL
  have HR := Lib.hid hr
  have hlen : L.length ≤ 1048576 := by rw [← hL]; exact assemble_small s pc
  clear hL hr
  go_enter Try.func7, Try.ntmps7
  go_wp2_with fail
  refine (specAsm_any s pc hp _ hs).mono ?_
  rintro e w1 ⟨v1, rfl, o1, b1⟩
  rw [HR.out]
  rw [HL.out] at o1
  obtain ⟨a1, c1, rfl⟩ := o1.len
  go_wp2_with fail
  refine (HI s pc _ hp hs).mono ?_
  rintro e w2 ⟨v2, rfl, o2, b2⟩
  rw [HR.out]
  rw [HL.out] at o2
  obtain ⟨a2, c2, rfl⟩ := o2.len
  have o12 := o1.below b2
  have k2 := b1.trans (b2.mono b1.size)
  have hw1 := b1.size
  have hblk : ∀ k, (Value.slice a1 L.length c1).ownBlock = some k → k < w1.heap.size := fun k ek => ((World.ownsRow.lt o1.2) k ek).2
  go_wp2_with fail
  refine (eqB_true _ _ _ _ L _ (by omega) o2.row.2 o12.row.2).mono ?_
  rintro e w3 ⟨rfl, d3, rfl⟩
  have k3 := below_drewN k2 d3
  have o13 := o12.drewN d3
  have o23 := o2.drewN d3
  clear o1 o2 o12 k2 b1
  by_cases hpos : 0 < L.length
  · obtain ⟨g, cp, hv, _⟩ := o23.cells hpos
    simp only [Value.slice.injEq, true_and] at hv
    obtain ⟨rfl, rfl⟩ := hv
    have hgb := ((World.ownsRow.lt o23.2) g rfl).1
    go_wp2_with fail
    refine (markB_any g L.length c2 1 w1.heap.size L _ rfl (by omega) o23).mono ?_
    rintro e w4 ⟨rfl, o4, hg4⟩
    have k4 : Below w.heap.size w w4 := k3.grown hg4 k3.size (fun j ej => by cases ej; exact Nat.le_trans hw1 hgb)
    have o14 := ownB_ne o13 hg4 (fun k ek e => by have := hblk k ek; omega)
    go_wp2_with fail
    refine (heldB_any _ L.length c2 1 _ (by omega) o4.row.2).mono ?_
    rintro e w' ⟨rfl, rfl⟩
    go_wp2_with fail
    refine (HI s pc _ hp hs).mono ?_
    rintro e w5 ⟨v5, rfl, o5, b5⟩
    rw [HR.out]
    rw [HL.out] at o5
    obtain ⟨a5, c5, rfl⟩ := o5.len
    have o15 := o14.below b5
    have o45 := o4.below b5
    have k5 := k4.trans (b5.mono k4.size)
    go_wp2_with fail
    refine (eqB_true _ _ _ _ L _ (by omega) o5.row.2 o15.row.2).mono ?_
    rintro e w6 ⟨rfl, d6, rfl⟩
    go_wp2_with fail
    refine (heldB_any _ L.length c2 1 _ (by omega) (o45.drewN d6).row.2).mono ?_
    rintro e w' ⟨rfl, rfl⟩
    go_wp2
    go_ret
    exact ⟨rfl, below_drewN k5 d6⟩
  · have hz : L.length = 0 := by omega
    have hL0 : L = [] := List.length_eq_zero_iff.1 hz
    subst hL0
    go_wp2_with fail
    refine (markB_empty _ _ _ _).mono ?_
    rintro e w' ⟨rfl, rfl⟩
    go_wp2_with fail
    refine (heldB_any _ 0 _ 1 _ (by omega) (rowNil _ _)).mono ?_
    rintro e w' ⟨rfl, rfl⟩
    go_wp2_with fail
    refine (HI s pc _ hp hs).mono ?_
    rintro e w5 ⟨v5, rfl, o5, b5⟩
    rw [HR.out]
    rw [HL.out] at o5
    obtain ⟨a5, c5, rfl⟩ := o5.len
    have o15 := o13.below b5
    have k5 := k3.trans (b5.mono k3.size)
    go_wp2_with fail
    refine (eqB_true _ _ _ _ [] _ (by simp) o5.row.2 o15.row.2).mono ?_
    rintro e w6 ⟨rfl, d6, rfl⟩
    go_wp2_with fail
    refine (heldB_any _ 0 _ 1 _ (by omega) (rowNil _ _)).mono ?_
    rintro e w' ⟨rfl, rfl⟩
    go_wp2
    go_ret
    exact ⟨rfl, below_drewN k5 d6⟩

end Go.Proofs.Ytffhjoldiicgdab
