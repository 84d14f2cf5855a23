/-
  The exact laws of memories, walked over any program whose functions keep these contracts.
-/
import Derived.Test.YtppkcljpfjdlnaaRamSeg
import Derived.Deep.RegionHeld3
namespace Go.Proofs.Ytppkcljpfjdlnaa
set_option linter.unusedVariables false
set_option linter.unusedSimpArgs false
open Go.RowKit

def ImplRamOk : Prop := ∀ (a : Option Addr) (n c : Nat) (w : World), n ≤ 1048576 → Calls Try.prog 29 #[ramV (.slice a n c)] w fun e w' => e = .returned (.bool (ramN n)) ∧ Below w.heap.size w w'

def ImplNewRam : Prop := ∀ (n : Int) (w : World), (Lit.int .i64 n).wf = true → Calls Try.prog 27 #[.int .i64 n] w fun e w' => ∃ v, e = .returned (ramV v) ∧ OwnB w' w.heap.size v (newL n) ∧ Below w.heap.size w w'

def ImplPeek : Prop := ∀ (a : Option Addr) (c addr : Nat) (L : List Nat) (w : World), addr < 65536 → L.length ≤ 1048576 → L.length ≤ c → RowB w a L → Calls Try.prog 18 #[ramV (.slice a L.length c), .int .u16 addr] w fun e w' => e = .returned (.int .u8 (peekL L addr)) ∧ Below w.heap.size w w'

def ImplPoke : Prop := ∀ (a : Option Addr) (c addr b : Nat) (L : List Nat) (w : World), addr < 65536 → b < 256 → L.length ≤ 1048576 → L.length ≤ c → RowB w a L → Calls Try.prog 16 #[ramV (.slice a L.length c), .int .u16 addr, .int .u8 b] w fun e w' => ∃ v, e = .returned (ramV v) ∧ OwnB w' w.heap.size v (pokeL L addr b) ∧ Below w.heap.size w w'

def ImplFill : Prop := ∀ (a : Option Addr) (c addr : Nat) (L : List Nat) (ax : Option Addr) (cx : Nat) (X : List Nat) (w : World), addr < 65536 → L.length ≤ 1048576 → L.length ≤ c → X.length ≤ 1048576 → X.length ≤ cx → RowB w a L → RowB w ax X → Calls Try.prog 20 #[ramV (.slice a L.length c), .int .u16 addr, .slice ax X.length cx] w fun e w' => ∃ v, e = .returned (ramV v) ∧ OwnB w' w.heap.size v (fillL L addr X) ∧ Below w.heap.size w w'

/-- Two boxes of one cell, as they stood behind a call. -/
theorem two_keep {w w1 : World} {B C : Nat} {u v : Value} (hb : Below w.heap.size w w1) (h : w.cell? ⟨B, 0, none⟩ = some u ∧ w.cell? ⟨C, 0, none⟩ = some v ∧ B < w.heap.size ∧ C < w.heap.size) : w1.cell? ⟨B, 0, none⟩ = some u ∧ w1.cell? ⟨C, 0, none⟩ = some v ∧ B < w1.heap.size ∧ C < w1.heap.size :=
  ⟨cellKept hb h.1 h.2.2.1, cellKept hb h.2.1 h.2.2.2, Nat.lt_of_lt_of_le h.2.2.1 hb.size, Nat.lt_of_lt_of_le h.2.2.2 hb.size⟩

theorem pokeL_small {L : List Nat} {addr b : Nat} (h : L.length ≤ 1048576) : (pokeL L addr b).length ≤ 1048576 := by
  unfold pokeL; split
  · rw [List.length_set]; exact h
  · simp

theorem fillL_small {L : List Nat} {addr : Nat} {X : List Nat} (h : L.length ≤ 1048576) : (fillL L addr X).length ≤ 1048576 := by
  unfold fillL; split
  · rw [fillAt_len]; exact h
  · simp

theorem newL_small (n : Int) : (newL n).length ≤ 1048576 := by
  unfold newL; split
  · rename_i h
    unfold ramI at h
    rw [Bool.and_eq_true] at h
    have := ramN_pos h.2
    rw [List.length_replicate]; omega
  · simp

set_option maxRecDepth 100000 in
set_option maxHeartbeats 2000000 in
theorem walkRamOk (HI : ImplRamOk) (a : Option Addr) (cap : Nat) (L : List Nat) (w : World) (hl : L.length ≤ 1048576) (hr : RowB w a L) :
    Calls Try.prog 7 #[ramV (.slice a L.length cap)] w fun e w' => e = .returned (.bool true) ∧ Below w.heap.size w w' := by
  have HSZ := fun w => szRam_any a L.length cap 1048576 (by unfold maxLen; omega) (by omega) w
  rw [if_neg (by omega)] at HSZ
  obtain ⟨q, hq⟩ : ∃ q, (1048576 : Int) - (L.length : Int) = q := ⟨_, rfl⟩
  rw [hq] at HSZ
  have hq0 : ¬ q < 0 := by omega
  clear hq
  obtain ⟨y, hy⟩ : ∃ y, ramN L.length = y := ⟨_, rfl⟩
  have HY := Lib.hid hy
  clear hy
  have b0 : Below w.heap.size w w := Below.refl _ _
  have d1 : Below w.heap.size w (w.alloc (.cells #[.slice a L.length cap] 47)) := (Below.refl _ _).alloc (Nat.le_refl _) _
  have p2 : BoxN (w.alloc (.cells #[.slice a L.length cap] 47)) w.heap.size 47 #[.slice a L.length cap] := BoxN.new _ _ _
  have z3 : Hid ((w.alloc (.cells #[.slice a L.length cap] 47)).heap.size = w.heap.size + 1) := Lib.hid (World.size_alloc _ _)
  have b4 := bstep b0 d1
  have z5 := Lib.hid d1.size
  clear b0 d1
  go_enter Try.func7, Try.ntmps7
  have c6 := p2.cell 0 (.slice a L.length cap) rfl
  go_wp2_with fail
  refine (HSZ _).mono ?_
  rintro e w7 ⟨rfl, d8⟩
  have b9 := bstep b4 d8
  have p10 := p2.below d8
  have z11 := Lib.hid d8.size
  clear b4 p2 c6 d8
  have c14 := p10.cell 0 (.slice a L.length cap) rfl
  go_wp2_with fail
  refine (toRam_seg a cap L _ hl (hr.below b9)).mono ?_
  rintro e w15 ⟨g12, rfl, s13, d16⟩
  have b17 := bstep b9 d16
  have p18 := p10.below d16
  have z19 := Lib.hid d16.size
  clear b9 p10 c14 d16
  have c20 := p18.cell 0 (.slice a L.length cap) rfl
  go_wp2_with fail
  refine (specOk_any _ L.length L.length _).mono ?_
  rintro e w21 ⟨rfl, d22⟩
  rw [HY.out]
  have b23 := bstep b17 d22
  have p24 := p18.below d22
  have s25 := s13.below d22
  have z26 := Lib.hid d22.size
  clear b17 p18 s13 c20 d22
  have c29 := p24.cell 0 (.slice a L.length cap) rfl
  go_wp2_with fail
  refine (toRam_seg a cap L _ hl (hr.below b23)).mono ?_
  rintro e w30 ⟨g27, rfl, s28, d31⟩
  have b32 := bstep b23 d31
  have p33 := p24.below d31
  have z34 := Lib.hid d31.size
  clear b23 p24 s25 c29 d31
  have d35 : Below w30.heap.size w30 (w30.alloc (.cells #[.slice (some ⟨g27, 0, none⟩) L.length L.length] 25)) := (Below.refl _ _).alloc (Nat.le_refl _) _
  have p36 : BoxN (w30.alloc (.cells #[.slice (some ⟨g27, 0, none⟩) L.length L.length] 25)) w30.heap.size 25 #[.slice (some ⟨g27, 0, none⟩) L.length L.length] := BoxN.new _ _ _
  have z37 : Hid ((w30.alloc (.cells #[.slice (some ⟨g27, 0, none⟩) L.length L.length] 25)).heap.size = w30.heap.size + 1) := Lib.hid (World.size_alloc _ _)
  have b38 := bstep b32 d35
  have p39 := p33.below d35
  have s40 := s28.below d35
  have z41 := Lib.hid d35.size
  clear b32 p33 s28 d35
  have c42 := p39.cell 0 (.slice a L.length cap) rfl
  have c43 := p36.cell 0 (.slice (some ⟨g27, 0, none⟩) L.length L.length) rfl
  go_wp2_with fail
  refine (HI _ L.length L.length _ hl).mono ?_
  rintro e w44 ⟨rfl, d45⟩
  rw [HY.out]
  have b46 := bstep b38 d45
  have p47 := p39.below d45
  have p48 := p36.below d45
  have s49 := s40.below d45
  have z50 := Lib.hid d45.size
  clear b38 p39 p36 s40 c42 c43 d45
  have p51 := p47.drew
  have p52 := p48.drew
  have s53 := s49.drew
  have b54 := b46.drew
  have S55 : w44.drew.cell? ⟨w30.heap.size, 0, none⟩ = some (.slice (some ⟨g27, 0, none⟩) L.length L.length) ∧ w44.drew.cell? ⟨w.heap.size, 0, none⟩ = some (.slice a L.length cap) ∧ w30.heap.size < w44.drew.heap.size ∧ w.heap.size < w44.drew.heap.size := ⟨p52.cell 0 (.slice (some ⟨g27, 0, none⟩) L.length L.length) rfl, p51.cell 0 (.slice a L.length cap) rfl, p52.lt, p51.lt⟩
  have r56 := hr.below b54
  clear p47 p48 s49 b46
  go_wp2_with fail
  go_region_held3 (fun w' => w'.cell? ⟨w30.heap.size, 0, none⟩ = some (.slice (some ⟨g27, 0, none⟩) L.length L.length) ∧ w'.cell? ⟨w.heap.size, 0, none⟩ = some (.slice a L.length cap) ∧ w30.heap.size < w'.heap.size ∧ w.heap.size < w'.heap.size)
    (((try dsimp only); (first | (with_reducible exact S55) | (with_reducible exact two_keep d58 S55) | (with_reducible exact two_keep d62 (two_keep d58 S55)))))
    (first | (go_at_call 32; refine (toRam_any a cap L _ hl r56).mono ?_; rintro e w57 ⟨g59, rfl, o60, d58⟩) | (go_at_call 33; refine (eqRam_true _ _ L.length L.length L _ (by omega) (s53.1.below d58).row.2 o60.row.2).mono ?_; rintro e w61 ⟨rfl, d62⟩))
  have z63 : Hid (w44.drew.heap.size = w44.heap.size) := Lib.hid rfl
  have b64 := bstep b54 d58
  have p65 := p51.below d58
  have p66 := p52.below d58
  have s67 := s53.below d58
  have z68 := Lib.hid d58.size
  clear b54 p51 p52 s53 S55 r56 o60 d58
  have b69 := bstep b64 d62
  have p70 := p65.below d62
  have p71 := p66.below d62
  have s72 := s67.below d62
  have z73 := Lib.hid d62.size
  clear b64 p65 p66 s67 d62
  go_wp2
  go_ret
  exact ⟨rfl, b69⟩

set_option maxRecDepth 100000 in
set_option maxHeartbeats 2000000 in
theorem walkPeek (HI : ImplPeek) (a : Option Addr) (cap addr : Nat) (L : List Nat) (w : World) (ha : addr < 65536) (hl : L.length ≤ 1048576) (hr : RowB w a L) :
    Calls Try.prog 9 #[ramV (.slice a L.length cap), .int .u16 addr] w fun e w' => e = .returned (.bool true) ∧ Below w.heap.size w w' := by
  have HSZ := fun w => szRam_any a L.length cap 1048576 (by unfold maxLen; omega) (by omega) w
  rw [if_neg (by omega)] at HSZ
  obtain ⟨q, hq⟩ : ∃ q, (1048576 : Int) - (L.length : Int) = q := ⟨_, rfl⟩
  rw [hq] at HSZ
  have hq0 : ¬ q < 0 := by omega
  clear hq
  obtain ⟨y, hy⟩ : ∃ y, peekL L addr = y := ⟨_, rfl⟩
  have HY := Lib.hid hy
  clear hy
  have b0 : Below w.heap.size w w := Below.refl _ _
  have d1 : Below w.heap.size w (w.alloc (.cells #[.slice a L.length cap] 47)) := (Below.refl _ _).alloc (Nat.le_refl _) _
  have p2 : BoxN (w.alloc (.cells #[.slice a L.length cap] 47)) w.heap.size 47 #[.slice a L.length cap] := BoxN.new _ _ _
  have z3 : Hid ((w.alloc (.cells #[.slice a L.length cap] 47)).heap.size = w.heap.size + 1) := Lib.hid (World.size_alloc _ _)
  have b4 := bstep b0 d1
  have z5 := Lib.hid d1.size
  clear b0 d1
  go_enter Try.func9, Try.ntmps9
  have c6 := p2.cell 0 (.slice a L.length cap) rfl
  go_wp2_with fail
  refine (HSZ _).mono ?_
  rintro e w7 ⟨rfl, d8⟩
  have b9 := bstep b4 d8
  have p10 := p2.below d8
  have z11 := Lib.hid d8.size
  clear b4 p2 c6 d8
  have c14 := p10.cell 0 (.slice a L.length cap) rfl
  go_wp2_with fail
  refine (toRam_seg a cap L _ hl (hr.below b9)).mono ?_
  rintro e w15 ⟨g12, rfl, s13, d16⟩
  have b17 := bstep b9 d16
  have p18 := p10.below d16
  have z19 := Lib.hid d16.size
  clear b9 p10 c14 d16
  have c20 := p18.cell 0 (.slice a L.length cap) rfl
  go_wp2_with fail
  refine (specPeek_any _ L.length addr L ha _ s13.row).mono ?_
  rintro e w21 ⟨rfl, d22⟩
  rw [HY.out]
  have b23 := bstep b17 d22
  have p24 := p18.below d22
  have s25 := s13.below d22
  have z26 := Lib.hid d22.size
  clear b17 p18 s13 c20 d22
  have c29 := p24.cell 0 (.slice a L.length cap) rfl
  go_wp2_with fail
  refine (toRam_seg a cap L _ hl (hr.below b23)).mono ?_
  rintro e w30 ⟨g27, rfl, s28, d31⟩
  have b32 := bstep b23 d31
  have p33 := p24.below d31
  have z34 := Lib.hid d31.size
  clear b23 p24 s25 c29 d31
  have d35 : Below w30.heap.size w30 (w30.alloc (.cells #[.slice (some ⟨g27, 0, none⟩) L.length L.length] 25)) := (Below.refl _ _).alloc (Nat.le_refl _) _
  have p36 : BoxN (w30.alloc (.cells #[.slice (some ⟨g27, 0, none⟩) L.length L.length] 25)) w30.heap.size 25 #[.slice (some ⟨g27, 0, none⟩) L.length L.length] := BoxN.new _ _ _
  have z37 : Hid ((w30.alloc (.cells #[.slice (some ⟨g27, 0, none⟩) L.length L.length] 25)).heap.size = w30.heap.size + 1) := Lib.hid (World.size_alloc _ _)
  have b38 := bstep b32 d35
  have p39 := p33.below d35
  have s40 := s28.below d35
  have z41 := Lib.hid d35.size
  clear b32 p33 s28 d35
  have c42 := p39.cell 0 (.slice a L.length cap) rfl
  have c43 := p36.cell 0 (.slice (some ⟨g27, 0, none⟩) L.length L.length) rfl
  go_wp2_with fail
  refine (HI _ L.length addr L _ ha hl (Nat.le_refl _) s40.row).mono ?_
  rintro e w44 ⟨rfl, d45⟩
  rw [HY.out]
  have b46 := bstep b38 d45
  have p47 := p39.below d45
  have p48 := p36.below d45
  have s49 := s40.below d45
  have z50 := Lib.hid d45.size
  clear b38 p39 p36 s40 c42 c43 d45
  have p51 := p47.drew
  have p52 := p48.drew
  have s53 := s49.drew
  have b54 := b46.drew
  have S55 : w44.drew.cell? ⟨w30.heap.size, 0, none⟩ = some (.slice (some ⟨g27, 0, none⟩) L.length L.length) ∧ w44.drew.cell? ⟨w.heap.size, 0, none⟩ = some (.slice a L.length cap) ∧ w30.heap.size < w44.drew.heap.size ∧ w.heap.size < w44.drew.heap.size := ⟨p52.cell 0 (.slice (some ⟨g27, 0, none⟩) L.length L.length) rfl, p51.cell 0 (.slice a L.length cap) rfl, p52.lt, p51.lt⟩
  have r56 := hr.below b54
  clear p47 p48 s49 b46
  go_wp2_with fail
  go_region_held3 (fun w' => w'.cell? ⟨w30.heap.size, 0, none⟩ = some (.slice (some ⟨g27, 0, none⟩) L.length L.length) ∧ w'.cell? ⟨w.heap.size, 0, none⟩ = some (.slice a L.length cap) ∧ w30.heap.size < w'.heap.size ∧ w.heap.size < w'.heap.size)
    (((try dsimp only); (first | (with_reducible exact S55) | (with_reducible exact two_keep d58 S55) | (with_reducible exact two_keep d62 (two_keep d58 S55)))))
    (first | (go_at_call 32; refine (toRam_any a cap L _ hl r56).mono ?_; rintro e w57 ⟨g59, rfl, o60, d58⟩) | (go_at_call 33; refine (eqRam_true _ _ L.length L.length L _ (by omega) (s53.1.below d58).row.2 o60.row.2).mono ?_; rintro e w61 ⟨rfl, d62⟩))
  have z63 : Hid (w44.drew.heap.size = w44.heap.size) := Lib.hid rfl
  have b64 := bstep b54 d58
  have p65 := p51.below d58
  have p66 := p52.below d58
  have s67 := s53.below d58
  have z68 := Lib.hid d58.size
  clear b54 p51 p52 s53 S55 r56 o60 d58
  have b69 := bstep b64 d62
  have p70 := p65.below d62
  have p71 := p66.below d62
  have s72 := s67.below d62
  have z73 := Lib.hid d62.size
  clear b64 p65 p66 s67 d62
  go_wp2
  go_ret
  exact ⟨rfl, b69⟩

set_option maxRecDepth 100000 in
set_option maxHeartbeats 2000000 in
theorem walkNewRam (HI : ImplNewRam) (n : Int) (hn : (Lit.int .i64 n).wf = true) (w : World) :
    Calls Try.prog 8 #[.int .i64 n] w fun e w' => e = .returned (.bool true) ∧ Below w.heap.size w w' := by
  obtain ⟨M, hM⟩ : ∃ M, newL n = M := ⟨_, rfl⟩
  have hml : M.length ≤ 1048576 := by rw [← hM]; exact newL_small n
  have HM := Lib.hid hM
  have HW := Lib.hid hn
  clear hM hn
  have b0 : Below w.heap.size w w := Below.refl _ _
  go_enter Try.func8, Try.ntmps8
  go_wp2_with fail
  refine (specNew_any n _).mono ?_
  rintro e w7 ⟨v1, rfl, o2, d8⟩
  rw [HM.out] at o2
  have s3 := SegB.of o2
  obtain ⟨a4, c5, rfl, h6⟩ := s3.len
  clear o2
  have b9 := bstep b0 d8
  have z10 := Lib.hid d8.size
  clear b0 d8
  have d11 : Below w7.heap.size w7 (w7.alloc (.cells #[.slice a4 M.length c5] 25)) := (Below.refl _ _).alloc (Nat.le_refl _) _
  have p12 : BoxN (w7.alloc (.cells #[.slice a4 M.length c5] 25)) w7.heap.size 25 #[.slice a4 M.length c5] := BoxN.new _ _ _
  have z13 : Hid ((w7.alloc (.cells #[.slice a4 M.length c5] 25)).heap.size = w7.heap.size + 1) := Lib.hid (World.size_alloc _ _)
  have b14 := bstep b9 d11
  have s15 := s3.below d11
  have z16 := Lib.hid d11.size
  clear b9 s3 d11
  have c23 := p12.cell 0 (.slice a4 M.length c5) rfl
  go_wp2_with fail
  refine (HI n _ HW.out).mono ?_
  rintro e w24 ⟨v17, rfl, o18, d25⟩
  rw [HM.out] at o18
  have s19 := SegB.of o18
  obtain ⟨a20, c21, rfl, h22⟩ := s19.len
  clear o18
  have b26 := bstep b14 d25
  have p27 := p12.below d25
  have s28 := s15.below d25
  have z29 := Lib.hid d25.size
  clear b14 p12 s15 c23 d25
  have d30 : Below w24.heap.size w24 (w24.alloc (.cells #[.slice a20 M.length c21] 25)) := (Below.refl _ _).alloc (Nat.le_refl _) _
  have p31 : BoxN (w24.alloc (.cells #[.slice a20 M.length c21] 25)) w24.heap.size 25 #[.slice a20 M.length c21] := BoxN.new _ _ _
  have z32 : Hid ((w24.alloc (.cells #[.slice a20 M.length c21] 25)).heap.size = w24.heap.size + 1) := Lib.hid (World.size_alloc _ _)
  have b33 := bstep b26 d30
  have p34 := p27.below d30
  have s35 := s28.below d30
  have s36 := s19.below d30
  have z37 := Lib.hid d30.size
  clear b26 p27 s28 s19 d30
  have c38 := p34.cell 0 (.slice a4 M.length c5) rfl
  have c39 := p31.cell 0 (.slice a20 M.length c21) rfl
  go_wp2_with fail
  refine (eqRam_seg _ _ _ _ M _ hml s36.row s35.row).mono ?_
  rintro e w40 ⟨rfl, d41⟩
  have b42 := bstep b33 d41
  have p43 := p34.below d41
  have p44 := p31.below d41
  have s45 := s35.below d41
  have s46 := s36.below d41
  have z47 := Lib.hid d41.size
  clear b33 p34 p31 s35 s36 c38 c39 d41
  have c49 := p43.cell 0 (.slice a4 M.length c5) rfl
  have c50 := p44.cell 0 (.slice a20 M.length c21) rfl
  go_wp2_with fail
  refine (markRam_seg _ _ 1 _ _ M _ hml (by omega) s46).mono ?_
  rintro e w51 ⟨rfl, s48, d52⟩
  have b53 := b42.trans (d52.below (by have := z10.out; have := z13.out; have := z16.out; have := z29.out; have := z32.out; have := z37.out; have := z47.out; omega) b42.size)
  have p54 := p43.span d52 (by have := z10.out; have := z13.out; have := z16.out; have := z29.out; have := z32.out; have := z37.out; have := z47.out; omega)
  have p55 := p44.span d52 (by have := z10.out; have := z13.out; have := z16.out; have := z29.out; have := z32.out; have := z37.out; have := z47.out; omega)
  have s56 := s45.span d52 (by have := z10.out; have := z13.out; have := z16.out; have := z29.out; have := z32.out; have := z37.out; have := z47.out; omega)
  have z57 := Lib.hid d52.size
  clear b42 p43 p44 s45 c49 c50 d52
  have c58 := p54.cell 0 (.slice a4 M.length c5) rfl
  have c59 := p55.cell 0 (.slice a20 M.length c21) rfl
  go_wp2_with fail
  refine (heldRam_seg _ _ 1 M.length _ _ _ hml (by omega) s48).mono ?_
  rintro e w60 ⟨rfl, d61⟩
  have b62 := bstep b53 d61
  have p63 := p54.below d61
  have p64 := p55.below d61
  have s65 := s56.below d61
  have s66 := s48.below d61
  have z67 := Lib.hid d61.size
  clear b53 p54 p55 s56 s48 s46 c58 c59 d61
  have c74 := p63.cell 0 (.slice a4 M.length c5) rfl
  have c75 := p64.cell 0 (.slice a20 M.length c21) rfl
  go_wp2_with fail
  refine (HI n _ HW.out).mono ?_
  rintro e w76 ⟨v68, rfl, o69, d77⟩
  rw [HM.out] at o69
  have s70 := SegB.of o69
  obtain ⟨a71, c72, rfl, h73⟩ := s70.len
  clear o69
  have b78 := bstep b62 d77
  have p79 := p63.below d77
  have p80 := p64.below d77
  have s81 := s65.below d77
  have s82 := s66.below d77
  have z83 := Lib.hid d77.size
  clear b62 p63 p64 s65 s66 c74 c75 d77
  have d84 : Below w76.heap.size w76 (w76.alloc (.cells #[.slice a71 M.length c72] 25)) := (Below.refl _ _).alloc (Nat.le_refl _) _
  have p85 : BoxN (w76.alloc (.cells #[.slice a71 M.length c72] 25)) w76.heap.size 25 #[.slice a71 M.length c72] := BoxN.new _ _ _
  have z86 : Hid ((w76.alloc (.cells #[.slice a71 M.length c72] 25)).heap.size = w76.heap.size + 1) := Lib.hid (World.size_alloc _ _)
  have b87 := bstep b78 d84
  have p88 := p79.below d84
  have p89 := p80.below d84
  have s90 := s81.below d84
  have s91 := s82.below d84
  have s92 := s70.below d84
  have z93 := Lib.hid d84.size
  clear b78 p79 p80 s81 s82 s70 d84
  have c94 := p88.cell 0 (.slice a4 M.length c5) rfl
  have c95 := p89.cell 0 (.slice a20 M.length c21) rfl
  have c96 := p85.cell 0 (.slice a71 M.length c72) rfl
  go_wp2_with fail
  refine (eqRam_seg _ _ _ _ M _ hml s92.row s90.row).mono ?_
  rintro e w97 ⟨rfl, d98⟩
  have b99 := bstep b87 d98
  have p100 := p88.below d98
  have p101 := p89.below d98
  have p102 := p85.below d98
  have s103 := s90.below d98
  have s104 := s91.below d98
  have s105 := s92.below d98
  have z106 := Lib.hid d98.size
  clear b87 p88 p89 p85 s90 s91 s92 c94 c95 c96 d98
  have c107 := p100.cell 0 (.slice a4 M.length c5) rfl
  have c108 := p101.cell 0 (.slice a20 M.length c21) rfl
  have c109 := p102.cell 0 (.slice a71 M.length c72) rfl
  go_wp2_with fail
  refine (heldRam_seg _ _ 1 M.length _ _ _ hml (by omega) s104).mono ?_
  rintro e w110 ⟨rfl, d111⟩
  have b112 := bstep b99 d111
  have p113 := p100.below d111
  have p114 := p101.below d111
  have p115 := p102.below d111
  have s116 := s103.below d111
  have s117 := s104.below d111
  have s118 := s105.below d111
  have z119 := Lib.hid d111.size
  clear b99 p100 p101 p102 s103 s104 s105 c107 c108 c109 d111
  go_wp2
  go_ret
  exact ⟨rfl, b112⟩

set_option maxRecDepth 100000 in
set_option maxHeartbeats 4000000 in
theorem walkPoke (HI : ImplPoke) (a : Option Addr) (cap addr b : Nat) (L : List Nat) (w : World) (ha : addr < 65536) (hb : b < 256) (hl : L.length ≤ 1048576) (hr : RowB w a L) :
    Calls Try.prog 10 #[ramV (.slice a L.length cap), .int .u16 addr, .int .u8 b] w fun e w' => e = .returned (.bool true) ∧ Below w.heap.size w w' := by
  have HSZ := fun w => szRam_any a L.length cap 1048576 (by unfold maxLen; omega) (by omega) w
  rw [if_neg (by omega)] at HSZ
  obtain ⟨q, hq⟩ : ∃ q, (1048576 : Int) - (L.length : Int) = q := ⟨_, rfl⟩
  rw [hq] at HSZ
  have hq0 : ¬ q < 0 := by omega
  clear hq
  obtain ⟨M, hM⟩ : ∃ M, pokeL L addr b = M := ⟨_, rfl⟩
  have hml : M.length ≤ 1048576 := by rw [← hM]; exact pokeL_small hl
  have HM := Lib.hid hM
  clear hM
  have b0 : Below w.heap.size w w := Below.refl _ _
  have d1 : Below w.heap.size w (w.alloc (.cells #[.slice a L.length cap] 47)) := (Below.refl _ _).alloc (Nat.le_refl _) _
  have p2 : BoxN (w.alloc (.cells #[.slice a L.length cap] 47)) w.heap.size 47 #[.slice a L.length cap] := BoxN.new _ _ _
  have z3 : Hid ((w.alloc (.cells #[.slice a L.length cap] 47)).heap.size = w.heap.size + 1) := Lib.hid (World.size_alloc _ _)
  have b4 := bstep b0 d1
  have z5 := Lib.hid d1.size
  clear b0 d1
  go_enter Try.func10, Try.ntmps10
  have c6 := p2.cell 0 (.slice a L.length cap) rfl
  go_wp2_with fail
  refine (HSZ _).mono ?_
  rintro e w7 ⟨rfl, d8⟩
  have b9 := bstep b4 d8
  have p10 := p2.below d8
  have z11 := Lib.hid d8.size
  clear b4 p2 c6 d8
  have c14 := p10.cell 0 (.slice a L.length cap) rfl
  go_wp2_with fail
  refine (toRam_seg a cap L _ hl (hr.below b9)).mono ?_
  rintro e w15 ⟨g12, rfl, s13, d16⟩
  have b17 := bstep b9 d16
  have p18 := p10.below d16
  have z19 := Lib.hid d16.size
  clear b9 p10 c14 d16
  have c26 := p18.cell 0 (.slice a L.length cap) rfl
  go_wp2_with fail
  refine (specPoke_any _ L.length addr b L ha hb _ s13.row).mono ?_
  rintro e w27 ⟨v20, rfl, o21, d28⟩
  rw [HM.out] at o21
  have s22 := SegB.of o21
  obtain ⟨a23, c24, rfl, h25⟩ := s22.len
  clear o21
  have b29 := bstep b17 d28
  have p30 := p18.below d28
  have s31 := s13.below d28
  have z32 := Lib.hid d28.size
  clear b17 p18 s13 c26 d28
  have d33 : Below w27.heap.size w27 (w27.alloc (.cells #[.slice a23 M.length c24] 25)) := (Below.refl _ _).alloc (Nat.le_refl _) _
  have p34 : BoxN (w27.alloc (.cells #[.slice a23 M.length c24] 25)) w27.heap.size 25 #[.slice a23 M.length c24] := BoxN.new _ _ _
  have z35 : Hid ((w27.alloc (.cells #[.slice a23 M.length c24] 25)).heap.size = w27.heap.size + 1) := Lib.hid (World.size_alloc _ _)
  have b36 := bstep b29 d33
  have p37 := p30.below d33
  have s38 := s31.below d33
  have s39 := s22.below d33
  have z40 := Lib.hid d33.size
  clear b29 p30 s31 s22 d33
  have c43 := p37.cell 0 (.slice a L.length cap) rfl
  have c44 := p34.cell 0 (.slice a23 M.length c24) rfl
  go_wp2_with fail
  refine (toRam_seg a cap L _ hl (hr.below b36)).mono ?_
  rintro e w45 ⟨g41, rfl, s42, d46⟩
  have b47 := bstep b36 d46
  have p48 := p37.below d46
  have p49 := p34.below d46
  have s50 := s39.below d46
  have z51 := Lib.hid d46.size
  clear b36 p37 p34 s39 s38 c43 c44 d46
  have d52 : Below w45.heap.size w45 (w45.alloc (.cells #[.slice (some ⟨g41, 0, none⟩) L.length L.length] 25)) := (Below.refl _ _).alloc (Nat.le_refl _) _
  have p53 : BoxN (w45.alloc (.cells #[.slice (some ⟨g41, 0, none⟩) L.length L.length] 25)) w45.heap.size 25 #[.slice (some ⟨g41, 0, none⟩) L.length L.length] := BoxN.new _ _ _
  have z54 : Hid ((w45.alloc (.cells #[.slice (some ⟨g41, 0, none⟩) L.length L.length] 25)).heap.size = w45.heap.size + 1) := Lib.hid (World.size_alloc _ _)
  have b55 := bstep b47 d52
  have p56 := p48.below d52
  have p57 := p49.below d52
  have s58 := s50.below d52
  have s59 := s42.below d52
  have z60 := Lib.hid d52.size
  clear b47 p48 p49 s50 s42 d52
  have c67 := p56.cell 0 (.slice a L.length cap) rfl
  have c68 := p57.cell 0 (.slice a23 M.length c24) rfl
  have c69 := p53.cell 0 (.slice (some ⟨g41, 0, none⟩) L.length L.length) rfl
  go_wp2_with fail
  refine (HI _ L.length addr b L _ ha hb hl (Nat.le_refl _) s59.row).mono ?_
  rintro e w70 ⟨v61, rfl, o62, d71⟩
  rw [HM.out] at o62
  have s63 := SegB.of o62
  obtain ⟨a64, c65, rfl, h66⟩ := s63.len
  clear o62
  have b72 := bstep b55 d71
  have p73 := p56.below d71
  have p74 := p57.below d71
  have p75 := p53.below d71
  have s76 := s58.below d71
  have s77 := s59.below d71
  have z78 := Lib.hid d71.size
  clear b55 p56 p57 p53 s58 s59 c67 c68 c69 d71
  have d79 : Below w70.heap.size w70 (w70.alloc (.cells #[.slice a64 M.length c65] 25)) := (Below.refl _ _).alloc (Nat.le_refl _) _
  have p80 : BoxN (w70.alloc (.cells #[.slice a64 M.length c65] 25)) w70.heap.size 25 #[.slice a64 M.length c65] := BoxN.new _ _ _
  have z81 : Hid ((w70.alloc (.cells #[.slice a64 M.length c65] 25)).heap.size = w70.heap.size + 1) := Lib.hid (World.size_alloc _ _)
  have b82 := bstep b72 d79
  have p83 := p73.below d79
  have p84 := p74.below d79
  have p85 := p75.below d79
  have s86 := s76.below d79
  have s87 := s77.below d79
  have s88 := s63.below d79
  have z89 := Lib.hid d79.size
  clear b72 p73 p74 p75 s76 s77 s63 d79
  have c90 := p83.cell 0 (.slice a L.length cap) rfl
  have c91 := p84.cell 0 (.slice a23 M.length c24) rfl
  have c92 := p85.cell 0 (.slice (some ⟨g41, 0, none⟩) L.length L.length) rfl
  have c93 := p80.cell 0 (.slice a64 M.length c65) rfl
  go_wp2_with fail
  refine (eqRam_seg _ _ _ _ M _ hml s88.row s86.row).mono ?_
  rintro e w94 ⟨rfl, d95⟩
  have b96 := bstep b82 d95
  have p97 := p83.below d95
  have p98 := p84.below d95
  have p99 := p85.below d95
  have p100 := p80.below d95
  have s101 := s86.below d95
  have s102 := s87.below d95
  have s103 := s88.below d95
  have z104 := Lib.hid d95.size
  clear b82 p83 p84 p85 p80 s86 s87 s88 c90 c91 c92 c93 d95
  have p105 := p97.drew
  have p106 := p98.drew
  have p107 := p99.drew
  have p108 := p100.drew
  have s109 := s101.drew
  have s110 := s102.drew
  have s111 := s103.drew
  have b112 := b96.drew
  have S113 : w94.drew.cell? ⟨w45.heap.size, 0, none⟩ = some (.slice (some ⟨g41, 0, none⟩) L.length L.length) ∧ w94.drew.cell? ⟨w.heap.size, 0, none⟩ = some (.slice a L.length cap) ∧ w45.heap.size < w94.drew.heap.size ∧ w.heap.size < w94.drew.heap.size := ⟨p107.cell 0 (.slice (some ⟨g41, 0, none⟩) L.length L.length) rfl, p105.cell 0 (.slice a L.length cap) rfl, p107.lt, p105.lt⟩
  have r114 := hr.below b112
  clear p97 p98 p99 p100 s101 s102 s103 b96
  go_wp2_with fail
  go_region_held3 (fun w' => w'.cell? ⟨w45.heap.size, 0, none⟩ = some (.slice (some ⟨g41, 0, none⟩) L.length L.length) ∧ w'.cell? ⟨w.heap.size, 0, none⟩ = some (.slice a L.length cap) ∧ w45.heap.size < w'.heap.size ∧ w.heap.size < w'.heap.size)
    (((try dsimp only); (first | (with_reducible exact S113) | (with_reducible exact two_keep d116 S113) | (with_reducible exact two_keep d120 (two_keep d116 S113)))))
    (first | (go_at_call 32; refine (toRam_any a cap L _ hl r114).mono ?_; rintro e w115 ⟨g117, rfl, o118, d116⟩) | (go_at_call 33; refine (eqRam_true _ _ L.length L.length L _ (by omega) (s110.1.below d116).row.2 o118.row.2).mono ?_; rintro e w119 ⟨rfl, d120⟩))
  have z121 : Hid (w94.drew.heap.size = w94.heap.size) := Lib.hid rfl
  have b122 := bstep b112 d116
  have p123 := p105.below d116
  have p124 := p106.below d116
  have p125 := p107.below d116
  have p126 := p108.below d116
  have s127 := s109.below d116
  have s128 := s110.below d116
  have s129 := s111.below d116
  have z130 := Lib.hid d116.size
  clear b112 p105 p106 p107 p108 s109 s110 s111 S113 r114 o118 d116
  have b131 := bstep b122 d120
  have p132 := p123.below d120
  have p133 := p124.below d120
  have p134 := p125.below d120
  have p135 := p126.below d120
  have s136 := s127.below d120
  have s137 := s128.below d120
  have s138 := s129.below d120
  have z139 := Lib.hid d120.size
  clear b122 p123 p124 p125 p126 s127 s128 s129 d120
  have c141 := p132.cell 0 (.slice a L.length cap) rfl
  have c142 := p133.cell 0 (.slice a23 M.length c24) rfl
  have c143 := p134.cell 0 (.slice (some ⟨g41, 0, none⟩) L.length L.length) rfl
  have c144 := p135.cell 0 (.slice a64 M.length c65) rfl
  go_wp2_with fail
  refine (markRam_seg _ _ 1 _ _ L _ hl (by omega) s137).mono ?_
  rintro e w145 ⟨rfl, s140, d146⟩
  have b147 := b131.trans (d146.below (by have := z3.out; have := z5.out; have := z11.out; have := z19.out; have := z32.out; have := z35.out; have := z40.out; have := z51.out; have := z54.out; have := z60.out; have := z78.out; have := z81.out; have := z89.out; have := z104.out; have := z121.out; have := z130.out; have := z139.out; omega) b131.size)
  have p148 := p132.span d146 (by have := z3.out; have := z5.out; have := z11.out; have := z19.out; have := z32.out; have := z35.out; have := z40.out; have := z51.out; have := z54.out; have := z60.out; have := z78.out; have := z81.out; have := z89.out; have := z104.out; have := z121.out; have := z130.out; have := z139.out; omega)
  have p149 := p133.span d146 (by have := z3.out; have := z5.out; have := z11.out; have := z19.out; have := z32.out; have := z35.out; have := z40.out; have := z51.out; have := z54.out; have := z60.out; have := z78.out; have := z81.out; have := z89.out; have := z104.out; have := z121.out; have := z130.out; have := z139.out; omega)
  have p150 := p134.span d146 (by have := z3.out; have := z5.out; have := z11.out; have := z19.out; have := z32.out; have := z35.out; have := z40.out; have := z51.out; have := z54.out; have := z60.out; have := z78.out; have := z81.out; have := z89.out; have := z104.out; have := z121.out; have := z130.out; have := z139.out; omega)
  have p151 := p135.span d146 (by have := z3.out; have := z5.out; have := z11.out; have := z19.out; have := z32.out; have := z35.out; have := z40.out; have := z51.out; have := z54.out; have := z60.out; have := z78.out; have := z81.out; have := z89.out; have := z104.out; have := z121.out; have := z130.out; have := z139.out; omega)
  have s152 := s136.span d146 (by have := z3.out; have := z5.out; have := z11.out; have := z19.out; have := z32.out; have := z35.out; have := z40.out; have := z51.out; have := z54.out; have := z60.out; have := z78.out; have := z81.out; have := z89.out; have := z104.out; have := z121.out; have := z130.out; have := z139.out; omega)
  have s153 := s138.span d146 (by have := z3.out; have := z5.out; have := z11.out; have := z19.out; have := z32.out; have := z35.out; have := z40.out; have := z51.out; have := z54.out; have := z60.out; have := z78.out; have := z81.out; have := z89.out; have := z104.out; have := z121.out; have := z130.out; have := z139.out; omega)
  have z154 := Lib.hid d146.size
  clear b131 p132 p133 p134 p135 s136 s138 c141 c142 c143 c144 d146
  have c155 := p148.cell 0 (.slice a L.length cap) rfl
  have c156 := p149.cell 0 (.slice a23 M.length c24) rfl
  have c157 := p150.cell 0 (.slice (some ⟨g41, 0, none⟩) L.length L.length) rfl
  have c158 := p151.cell 0 (.slice a64 M.length c65) rfl
  go_wp2_with fail
  refine (eqRam_seg _ _ _ _ M _ hml s153.row s152.row).mono ?_
  rintro e w159 ⟨rfl, d160⟩
  have b161 := bstep b147 d160
  have p162 := p148.below d160
  have p163 := p149.below d160
  have p164 := p150.below d160
  have p165 := p151.below d160
  have s166 := s152.below d160
  have s167 := s140.below d160
  have s168 := s153.below d160
  have z169 := Lib.hid d160.size
  clear b147 p148 p149 p150 p151 s152 s140 s153 s137 c155 c156 c157 c158 d160
  have c171 := p162.cell 0 (.slice a L.length cap) rfl
  have c172 := p163.cell 0 (.slice a23 M.length c24) rfl
  have c173 := p164.cell 0 (.slice (some ⟨g41, 0, none⟩) L.length L.length) rfl
  have c174 := p165.cell 0 (.slice a64 M.length c65) rfl
  go_wp2_with fail
  refine (markRam_seg _ _ 1 _ _ M _ hml (by omega) s168).mono ?_
  rintro e w175 ⟨rfl, s170, d176⟩
  have b177 := b161.trans (d176.below (by have := z3.out; have := z5.out; have := z11.out; have := z19.out; have := z32.out; have := z35.out; have := z40.out; have := z51.out; have := z54.out; have := z60.out; have := z78.out; have := z81.out; have := z89.out; have := z104.out; have := z121.out; have := z130.out; have := z139.out; have := z154.out; have := z169.out; omega) b161.size)
  have p178 := p162.span d176 (by have := z3.out; have := z5.out; have := z11.out; have := z19.out; have := z32.out; have := z35.out; have := z40.out; have := z51.out; have := z54.out; have := z60.out; have := z78.out; have := z81.out; have := z89.out; have := z104.out; have := z121.out; have := z130.out; have := z139.out; have := z154.out; have := z169.out; omega)
  have p179 := p163.span d176 (by have := z3.out; have := z5.out; have := z11.out; have := z19.out; have := z32.out; have := z35.out; have := z40.out; have := z51.out; have := z54.out; have := z60.out; have := z78.out; have := z81.out; have := z89.out; have := z104.out; have := z121.out; have := z130.out; have := z139.out; have := z154.out; have := z169.out; omega)
  have p180 := p164.span d176 (by have := z3.out; have := z5.out; have := z11.out; have := z19.out; have := z32.out; have := z35.out; have := z40.out; have := z51.out; have := z54.out; have := z60.out; have := z78.out; have := z81.out; have := z89.out; have := z104.out; have := z121.out; have := z130.out; have := z139.out; have := z154.out; have := z169.out; omega)
  have p181 := p165.span d176 (by have := z3.out; have := z5.out; have := z11.out; have := z19.out; have := z32.out; have := z35.out; have := z40.out; have := z51.out; have := z54.out; have := z60.out; have := z78.out; have := z81.out; have := z89.out; have := z104.out; have := z121.out; have := z130.out; have := z139.out; have := z154.out; have := z169.out; omega)
  have s182 := s166.span d176 (by have := z3.out; have := z5.out; have := z11.out; have := z19.out; have := z32.out; have := z35.out; have := z40.out; have := z51.out; have := z54.out; have := z60.out; have := z78.out; have := z81.out; have := z89.out; have := z104.out; have := z121.out; have := z130.out; have := z139.out; have := z154.out; have := z169.out; omega)
  have s183 := s167.span d176 (by have := z3.out; have := z5.out; have := z11.out; have := z19.out; have := z32.out; have := z35.out; have := z40.out; have := z51.out; have := z54.out; have := z60.out; have := z78.out; have := z81.out; have := z89.out; have := z104.out; have := z121.out; have := z130.out; have := z139.out; have := z154.out; have := z169.out; omega)
  have z184 := Lib.hid d176.size
  clear b161 p162 p163 p164 p165 s166 s167 c171 c172 c173 c174 d176
  have c185 := p178.cell 0 (.slice a L.length cap) rfl
  have c186 := p179.cell 0 (.slice a23 M.length c24) rfl
  have c187 := p180.cell 0 (.slice (some ⟨g41, 0, none⟩) L.length L.length) rfl
  have c188 := p181.cell 0 (.slice a64 M.length c65) rfl
  go_wp2_with fail
  refine (heldRam_seg _ _ 1 M.length _ _ _ hml (by omega) s170).mono ?_
  rintro e w189 ⟨rfl, d190⟩
  have b191 := bstep b177 d190
  have p192 := p178.below d190
  have p193 := p179.below d190
  have p194 := p180.below d190
  have p195 := p181.below d190
  have s196 := s182.below d190
  have s197 := s183.below d190
  have s198 := s170.below d190
  have z199 := Lib.hid d190.size
  clear b177 p178 p179 p180 p181 s182 s183 s170 s168 c185 c186 c187 c188 d190
  have c202 := p192.cell 0 (.slice a L.length cap) rfl
  have c203 := p193.cell 0 (.slice a23 M.length c24) rfl
  have c204 := p194.cell 0 (.slice (some ⟨g41, 0, none⟩) L.length L.length) rfl
  have c205 := p195.cell 0 (.slice a64 M.length c65) rfl
  go_wp2_with fail
  refine (toRam_seg a cap L _ hl (hr.below b191)).mono ?_
  rintro e w206 ⟨g200, rfl, s201, d207⟩
  have b208 := bstep b191 d207
  have p209 := p192.below d207
  have p210 := p193.below d207
  have p211 := p194.below d207
  have p212 := p195.below d207
  have s213 := s196.below d207
  have s214 := s197.below d207
  have s215 := s198.below d207
  have z216 := Lib.hid d207.size
  clear b191 p192 p193 p194 p195 s196 s197 s198 c202 c203 c204 c205 d207
  have c223 := p209.cell 0 (.slice a L.length cap) rfl
  have c224 := p210.cell 0 (.slice a23 M.length c24) rfl
  have c225 := p211.cell 0 (.slice (some ⟨g41, 0, none⟩) L.length L.length) rfl
  have c226 := p212.cell 0 (.slice a64 M.length c65) rfl
  go_wp2_with fail
  refine (HI _ L.length addr b L _ ha hb hl (Nat.le_refl _) s201.row).mono ?_
  rintro e w227 ⟨v217, rfl, o218, d228⟩
  rw [HM.out] at o218
  have s219 := SegB.of o218
  obtain ⟨a220, c221, rfl, h222⟩ := s219.len
  clear o218
  have b229 := bstep b208 d228
  have p230 := p209.below d228
  have p231 := p210.below d228
  have p232 := p211.below d228
  have p233 := p212.below d228
  have s234 := s213.below d228
  have s235 := s214.below d228
  have s236 := s215.below d228
  have s237 := s201.below d228
  have z238 := Lib.hid d228.size
  clear b208 p209 p210 p211 p212 s213 s214 s215 s201 c223 c224 c225 c226 d228
  have d239 : Below w227.heap.size w227 (w227.alloc (.cells #[.slice a220 M.length c221] 25)) := (Below.refl _ _).alloc (Nat.le_refl _) _
  have p240 : BoxN (w227.alloc (.cells #[.slice a220 M.length c221] 25)) w227.heap.size 25 #[.slice a220 M.length c221] := BoxN.new _ _ _
  have z241 : Hid ((w227.alloc (.cells #[.slice a220 M.length c221] 25)).heap.size = w227.heap.size + 1) := Lib.hid (World.size_alloc _ _)
  have b242 := bstep b229 d239
  have p243 := p230.below d239
  have p244 := p231.below d239
  have p245 := p232.below d239
  have p246 := p233.below d239
  have s247 := s234.below d239
  have s248 := s235.below d239
  have s249 := s236.below d239
  have s250 := s237.below d239
  have s251 := s219.below d239
  have z252 := Lib.hid d239.size
  clear b229 p230 p231 p232 p233 s234 s235 s236 s237 s219 d239
  have c253 := p243.cell 0 (.slice a L.length cap) rfl
  have c254 := p244.cell 0 (.slice a23 M.length c24) rfl
  have c255 := p246.cell 0 (.slice a64 M.length c65) rfl
  have c256 := p240.cell 0 (.slice a220 M.length c221) rfl
  go_wp2_with fail
  refine (eqRam_seg _ _ _ _ M _ hml s251.row s247.row).mono ?_
  rintro e w257 ⟨rfl, d258⟩
  have b259 := bstep b242 d258
  have p260 := p243.below d258
  have p261 := p244.below d258
  have p262 := p246.below d258
  have p263 := p240.below d258
  have s264 := s247.below d258
  have s265 := s249.below d258
  have s266 := s251.below d258
  have z267 := Lib.hid d258.size
  clear b242 p243 p244 p246 p240 s247 s249 s251 s250 s248 p245 c253 c254 c255 c256 d258
  have c268 := p260.cell 0 (.slice a L.length cap) rfl
  have c269 := p261.cell 0 (.slice a23 M.length c24) rfl
  have c270 := p262.cell 0 (.slice a64 M.length c65) rfl
  have c271 := p263.cell 0 (.slice a220 M.length c221) rfl
  go_wp2_with fail
  refine (heldRam_seg _ _ 1 M.length _ _ _ hml (by omega) s265).mono ?_
  rintro e w272 ⟨rfl, d273⟩
  have b274 := bstep b259 d273
  have p275 := p260.below d273
  have p276 := p261.below d273
  have p277 := p262.below d273
  have p278 := p263.below d273
  have s279 := s264.below d273
  have s280 := s265.below d273
  have s281 := s266.below d273
  have z282 := Lib.hid d273.size
  clear b259 p260 p261 p262 p263 s264 s265 s266 c268 c269 c270 c271 d273
  go_wp2
  go_ret
  exact ⟨rfl, b274⟩

set_option maxRecDepth 100000 in
set_option maxHeartbeats 8000000 in
theorem walkFill (HI : ImplFill) (a : Option Addr) (cap addr : Nat) (L : List Nat) (ax : Option Addr) (capx : Nat) (X : List Nat) (w : World) (ha : addr < 65536) (hl : L.length ≤ 1048576) (hx : X.length ≤ 1048576) (hr : RowB w a L) (hrx : RowB w ax X) :
    Calls Try.prog 11 #[ramV (.slice a L.length cap), .int .u16 addr, .slice ax X.length capx] w fun e w' => e = .returned (.bool true) ∧ Below w.heap.size w w' := by
  have HSZ := fun w => szRam_any a L.length cap 1048576 (by unfold maxLen; omega) (by omega) w
  rw [if_neg (by omega)] at HSZ
  obtain ⟨q, hq⟩ : ∃ q, (1048576 : Int) - (L.length : Int) = q := ⟨_, rfl⟩
  rw [hq] at HSZ
  have hq0 : ¬ q < 0 := by omega
  clear hq
  obtain ⟨M, hM⟩ : ∃ M, fillL L addr X = M := ⟨_, rfl⟩
  have hml : M.length ≤ 1048576 := by rw [← hM]; exact fillL_small hl
  have HM := Lib.hid hM
  clear hM
  have hxb : ¬ (1048576 : Int) < (X.length : Int) := by omega
  have b0 : Below w.heap.size w w := Below.refl _ _
  have d1 : Below w.heap.size w (w.alloc (.cells #[.slice a L.length cap] 47)) := (Below.refl _ _).alloc (Nat.le_refl _) _
  have p2 : BoxN (w.alloc (.cells #[.slice a L.length cap] 47)) w.heap.size 47 #[.slice a L.length cap] := BoxN.new _ _ _
  have z3 : Hid ((w.alloc (.cells #[.slice a L.length cap] 47)).heap.size = w.heap.size + 1) := Lib.hid (World.size_alloc _ _)
  have b4 := bstep b0 d1
  have z5 := Lib.hid d1.size
  clear b0 d1
  go_enter Try.func11, Try.ntmps11
  have c6 := p2.cell 0 (.slice a L.length cap) rfl
  go_wp2_with fail
  refine (HSZ _).mono ?_
  rintro e w7 ⟨rfl, d8⟩
  have b9 := bstep b4 d8
  have p10 := p2.below d8
  have z11 := Lib.hid d8.size
  clear b4 p2 c6 d8
  have c14 := p10.cell 0 (.slice a L.length cap) rfl
  go_wp2_with fail
  refine (toRam_seg a cap L _ hl (hr.below b9)).mono ?_
  rintro e w15 ⟨g12, rfl, s13, d16⟩
  have b17 := bstep b9 d16
  have p18 := p10.below d16
  have z19 := Lib.hid d16.size
  clear b9 p10 c14 d16
  have c22 := p18.cell 0 (.slice a L.length cap) rfl
  go_wp2_with fail
  refine (toB_seg ax capx X _ hx (hrx.below b17)).mono ?_
  rintro e w23 ⟨g20, rfl, s21, d24⟩
  have b25 := bstep b17 d24
  have p26 := p18.below d24
  have s27 := s13.below d24
  have z28 := Lib.hid d24.size
  clear b17 p18 s13 c22 d24
  have c35 := p26.cell 0 (.slice a L.length cap) rfl
  go_wp2_with fail
  refine (specFill_any _ L.length addr L _ X.length X ha _ s27.row s21.row (by unfold maxLen; omega)).mono ?_
  rintro e w36 ⟨v29, rfl, o30, d37⟩
  rw [HM.out] at o30
  have s31 := SegB.of o30
  obtain ⟨a32, c33, rfl, h34⟩ := s31.len
  clear o30
  have b38 := bstep b25 d37
  have p39 := p26.below d37
  have s40 := s27.below d37
  have s41 := s21.below d37
  have z42 := Lib.hid d37.size
  clear b25 p26 s27 s21 c35 d37
  have d43 : Below w36.heap.size w36 (w36.alloc (.cells #[.slice a32 M.length c33] 25)) := (Below.refl _ _).alloc (Nat.le_refl _) _
  have p44 : BoxN (w36.alloc (.cells #[.slice a32 M.length c33] 25)) w36.heap.size 25 #[.slice a32 M.length c33] := BoxN.new _ _ _
  have z45 : Hid ((w36.alloc (.cells #[.slice a32 M.length c33] 25)).heap.size = w36.heap.size + 1) := Lib.hid (World.size_alloc _ _)
  have b46 := bstep b38 d43
  have p47 := p39.below d43
  have s48 := s40.below d43
  have s49 := s41.below d43
  have s50 := s31.below d43
  have z51 := Lib.hid d43.size
  clear b38 p39 s40 s41 s31 d43
  have c54 := p47.cell 0 (.slice a L.length cap) rfl
  have c55 := p44.cell 0 (.slice a32 M.length c33) rfl
  go_wp2_with fail
  refine (toRam_seg a cap L _ hl (hr.below b46)).mono ?_
  rintro e w56 ⟨g52, rfl, s53, d57⟩
  have b58 := bstep b46 d57
  have p59 := p47.below d57
  have p60 := p44.below d57
  have s61 := s50.below d57
  have z62 := Lib.hid d57.size
  clear b46 p47 p44 s50 s48 s49 c54 c55 d57
  have d63 : Below w56.heap.size w56 (w56.alloc (.cells #[.slice (some ⟨g52, 0, none⟩) L.length L.length] 25)) := (Below.refl _ _).alloc (Nat.le_refl _) _
  have p64 : BoxN (w56.alloc (.cells #[.slice (some ⟨g52, 0, none⟩) L.length L.length] 25)) w56.heap.size 25 #[.slice (some ⟨g52, 0, none⟩) L.length L.length] := BoxN.new _ _ _
  have z65 : Hid ((w56.alloc (.cells #[.slice (some ⟨g52, 0, none⟩) L.length L.length] 25)).heap.size = w56.heap.size + 1) := Lib.hid (World.size_alloc _ _)
  have b66 := bstep b58 d63
  have p67 := p59.below d63
  have p68 := p60.below d63
  have s69 := s61.below d63
  have s70 := s53.below d63
  have z71 := Lib.hid d63.size
  clear b58 p59 p60 s61 s53 d63
  have c74 := p67.cell 0 (.slice a L.length cap) rfl
  have c75 := p68.cell 0 (.slice a32 M.length c33) rfl
  have c76 := p64.cell 0 (.slice (some ⟨g52, 0, none⟩) L.length L.length) rfl
  go_wp2_with fail
  refine (toB_seg ax capx X _ hx (hrx.below b66)).mono ?_
  rintro e w77 ⟨g72, rfl, s73, d78⟩
  have b79 := bstep b66 d78
  have p80 := p67.below d78
  have p81 := p68.below d78
  have p82 := p64.below d78
  have s83 := s69.below d78
  have s84 := s70.below d78
  have z85 := Lib.hid d78.size
  clear b66 p67 p68 p64 s69 s70 c74 c75 c76 d78
  have c92 := p80.cell 0 (.slice a L.length cap) rfl
  have c93 := p81.cell 0 (.slice a32 M.length c33) rfl
  have c94 := p82.cell 0 (.slice (some ⟨g52, 0, none⟩) L.length L.length) rfl
  go_wp2_with fail
  refine (HI _ L.length addr L _ X.length X _ ha hl (Nat.le_refl _) hx (Nat.le_refl _) s84.row s73.row).mono ?_
  rintro e w95 ⟨v86, rfl, o87, d96⟩
  rw [HM.out] at o87
  have s88 := SegB.of o87
  obtain ⟨a89, c90, rfl, h91⟩ := s88.len
  clear o87
  have b97 := bstep b79 d96
  have p98 := p80.below d96
  have p99 := p81.below d96
  have p100 := p82.below d96
  have s101 := s83.below d96
  have s102 := s84.below d96
  have s103 := s73.below d96
  have z104 := Lib.hid d96.size
  clear b79 p80 p81 p82 s83 s84 s73 c92 c93 c94 d96
  have d105 : Below w95.heap.size w95 (w95.alloc (.cells #[.slice a89 M.length c90] 25)) := (Below.refl _ _).alloc (Nat.le_refl _) _
  have p106 : BoxN (w95.alloc (.cells #[.slice a89 M.length c90] 25)) w95.heap.size 25 #[.slice a89 M.length c90] := BoxN.new _ _ _
  have z107 : Hid ((w95.alloc (.cells #[.slice a89 M.length c90] 25)).heap.size = w95.heap.size + 1) := Lib.hid (World.size_alloc _ _)
  have b108 := bstep b97 d105
  have p109 := p98.below d105
  have p110 := p99.below d105
  have p111 := p100.below d105
  have s112 := s101.below d105
  have s113 := s102.below d105
  have s114 := s103.below d105
  have s115 := s88.below d105
  have z116 := Lib.hid d105.size
  clear b97 p98 p99 p100 s101 s102 s103 s88 d105
  have c117 := p109.cell 0 (.slice a L.length cap) rfl
  have c118 := p110.cell 0 (.slice a32 M.length c33) rfl
  have c119 := p111.cell 0 (.slice (some ⟨g52, 0, none⟩) L.length L.length) rfl
  have c120 := p106.cell 0 (.slice a89 M.length c90) rfl
  go_wp2_with fail
  refine (eqRam_seg _ _ _ _ M _ hml s115.row s112.row).mono ?_
  rintro e w121 ⟨rfl, d122⟩
  have b123 := bstep b108 d122
  have p124 := p109.below d122
  have p125 := p110.below d122
  have p126 := p111.below d122
  have p127 := p106.below d122
  have s128 := s112.below d122
  have s129 := s113.below d122
  have s130 := s114.below d122
  have s131 := s115.below d122
  have z132 := Lib.hid d122.size
  clear b108 p109 p110 p111 p106 s112 s113 s114 s115 c117 c118 c119 c120 d122
  have p133 := p124.drew
  have p134 := p125.drew
  have p135 := p126.drew
  have p136 := p127.drew
  have s137 := s128.drew
  have s138 := s129.drew
  have s139 := s130.drew
  have s140 := s131.drew
  have b141 := b123.drew
  have S142 : w121.drew.cell? ⟨w56.heap.size, 0, none⟩ = some (.slice (some ⟨g52, 0, none⟩) L.length L.length) ∧ w121.drew.cell? ⟨w.heap.size, 0, none⟩ = some (.slice a L.length cap) ∧ w56.heap.size < w121.drew.heap.size ∧ w.heap.size < w121.drew.heap.size := ⟨p135.cell 0 (.slice (some ⟨g52, 0, none⟩) L.length L.length) rfl, p133.cell 0 (.slice a L.length cap) rfl, p135.lt, p133.lt⟩
  have r143 := hr.below b141
  clear p124 p125 p126 p127 s128 s129 s130 s131 b123
  go_wp2_with fail
  go_region_held3 (fun w' => w'.cell? ⟨w56.heap.size, 0, none⟩ = some (.slice (some ⟨g52, 0, none⟩) L.length L.length) ∧ w'.cell? ⟨w.heap.size, 0, none⟩ = some (.slice a L.length cap) ∧ w56.heap.size < w'.heap.size ∧ w.heap.size < w'.heap.size)
    (((try dsimp only); (first | (with_reducible exact S142) | (with_reducible exact two_keep d145 S142) | (with_reducible exact two_keep d149 (two_keep d145 S142)))))
    (first | (go_at_call 32; refine (toRam_any a cap L _ hl r143).mono ?_; rintro e w144 ⟨g146, rfl, o147, d145⟩) | (go_at_call 33; refine (eqRam_true _ _ L.length L.length L _ (by omega) (s138.1.below d145).row.2 o147.row.2).mono ?_; rintro e w148 ⟨rfl, d149⟩))
  have z150 : Hid (w121.drew.heap.size = w121.heap.size) := Lib.hid rfl
  have b151 := bstep b141 d145
  have p152 := p133.below d145
  have p153 := p134.below d145
  have p154 := p135.below d145
  have p155 := p136.below d145
  have s156 := s137.below d145
  have s157 := s138.below d145
  have s158 := s139.below d145
  have s159 := s140.below d145
  have z160 := Lib.hid d145.size
  clear b141 p133 p134 p135 p136 s137 s138 s139 s140 S142 r143 o147 d145
  have b161 := bstep b151 d149
  have p162 := p152.below d149
  have p163 := p153.below d149
  have p164 := p154.below d149
  have p165 := p155.below d149
  have s166 := s156.below d149
  have s167 := s157.below d149
  have s168 := s158.below d149
  have s169 := s159.below d149
  have z170 := Lib.hid d149.size
  clear b151 p152 p153 p154 p155 s156 s157 s158 s159 d149
  have c173 := p162.cell 0 (.slice a L.length cap) rfl
  have c174 := p163.cell 0 (.slice a32 M.length c33) rfl
  have c175 := p164.cell 0 (.slice (some ⟨g52, 0, none⟩) L.length L.length) rfl
  have c176 := p165.cell 0 (.slice a89 M.length c90) rfl
  go_wp2_with fail
  refine (toB_seg ax capx X _ hx (hrx.below b161)).mono ?_
  rintro e w177 ⟨g171, rfl, s172, d178⟩
  have b179 := bstep b161 d178
  have p180 := p162.below d178
  have p181 := p163.below d178
  have p182 := p164.below d178
  have p183 := p165.below d178
  have s184 := s166.below d178
  have s185 := s167.below d178
  have s186 := s168.below d178
  have s187 := s169.below d178
  have z188 := Lib.hid d178.size
  clear b161 p162 p163 p164 p165 s166 s167 s168 s169 c173 c174 c175 c176 d178
  have c189 := p180.cell 0 (.slice a L.length cap) rfl
  have c190 := p181.cell 0 (.slice a32 M.length c33) rfl
  have c191 := p182.cell 0 (.slice (some ⟨g52, 0, none⟩) L.length L.length) rfl
  have c192 := p183.cell 0 (.slice a89 M.length c90) rfl
  go_wp2_with fail
  refine (eqB_seg _ _ _ _ X _ hx s186.row s172.row).mono ?_
  rintro e w193 ⟨rfl, d194⟩
  have b195 := bstep b179 d194
  have p196 := p180.below d194
  have p197 := p181.below d194
  have p198 := p182.below d194
  have p199 := p183.below d194
  have s200 := s184.below d194
  have s201 := s185.below d194
  have s202 := s186.below d194
  have s203 := s187.below d194
  have s204 := s172.below d194
  have z205 := Lib.hid d194.size
  clear b179 p180 p181 p182 p183 s184 s185 s186 s187 s172 c189 c190 c191 c192 d194
  have c207 := p196.cell 0 (.slice a L.length cap) rfl
  have c208 := p197.cell 0 (.slice a32 M.length c33) rfl
  have c209 := p198.cell 0 (.slice (some ⟨g52, 0, none⟩) L.length L.length) rfl
  have c210 := p199.cell 0 (.slice a89 M.length c90) rfl
  go_wp2_with fail
  refine (markRam_seg _ _ 1 _ _ L _ hl (by omega) s201).mono ?_
  rintro e w211 ⟨rfl, s206, d212⟩
  have b213 := b195.trans (d212.below (by have := z3.out; have := z5.out; have := z11.out; have := z19.out; have := z28.out; have := z42.out; have := z45.out; have := z51.out; have := z62.out; have := z65.out; have := z71.out; have := z85.out; have := z104.out; have := z107.out; have := z116.out; have := z132.out; have := z150.out; have := z160.out; have := z170.out; have := z188.out; have := z205.out; omega) b195.size)
  have p214 := p196.span d212 (by have := z3.out; have := z5.out; have := z11.out; have := z19.out; have := z28.out; have := z42.out; have := z45.out; have := z51.out; have := z62.out; have := z65.out; have := z71.out; have := z85.out; have := z104.out; have := z107.out; have := z116.out; have := z132.out; have := z150.out; have := z160.out; have := z170.out; have := z188.out; have := z205.out; omega)
  have p215 := p197.span d212 (by have := z3.out; have := z5.out; have := z11.out; have := z19.out; have := z28.out; have := z42.out; have := z45.out; have := z51.out; have := z62.out; have := z65.out; have := z71.out; have := z85.out; have := z104.out; have := z107.out; have := z116.out; have := z132.out; have := z150.out; have := z160.out; have := z170.out; have := z188.out; have := z205.out; omega)
  have p216 := p198.span d212 (by have := z3.out; have := z5.out; have := z11.out; have := z19.out; have := z28.out; have := z42.out; have := z45.out; have := z51.out; have := z62.out; have := z65.out; have := z71.out; have := z85.out; have := z104.out; have := z107.out; have := z116.out; have := z132.out; have := z150.out; have := z160.out; have := z170.out; have := z188.out; have := z205.out; omega)
  have p217 := p199.span d212 (by have := z3.out; have := z5.out; have := z11.out; have := z19.out; have := z28.out; have := z42.out; have := z45.out; have := z51.out; have := z62.out; have := z65.out; have := z71.out; have := z85.out; have := z104.out; have := z107.out; have := z116.out; have := z132.out; have := z150.out; have := z160.out; have := z170.out; have := z188.out; have := z205.out; omega)
  have s218 := s200.span d212 (by have := z3.out; have := z5.out; have := z11.out; have := z19.out; have := z28.out; have := z42.out; have := z45.out; have := z51.out; have := z62.out; have := z65.out; have := z71.out; have := z85.out; have := z104.out; have := z107.out; have := z116.out; have := z132.out; have := z150.out; have := z160.out; have := z170.out; have := z188.out; have := z205.out; omega)
  have s219 := s202.span d212 (by have := z3.out; have := z5.out; have := z11.out; have := z19.out; have := z28.out; have := z42.out; have := z45.out; have := z51.out; have := z62.out; have := z65.out; have := z71.out; have := z85.out; have := z104.out; have := z107.out; have := z116.out; have := z132.out; have := z150.out; have := z160.out; have := z170.out; have := z188.out; have := z205.out; omega)
  have s220 := s203.span d212 (by have := z3.out; have := z5.out; have := z11.out; have := z19.out; have := z28.out; have := z42.out; have := z45.out; have := z51.out; have := z62.out; have := z65.out; have := z71.out; have := z85.out; have := z104.out; have := z107.out; have := z116.out; have := z132.out; have := z150.out; have := z160.out; have := z170.out; have := z188.out; have := z205.out; omega)
  have z221 := Lib.hid d212.size
  clear b195 p196 p197 p198 p199 s200 s202 s203 s204 c207 c208 c209 c210 d212
  have c223 := p214.cell 0 (.slice a L.length cap) rfl
  have c224 := p215.cell 0 (.slice a32 M.length c33) rfl
  have c225 := p216.cell 0 (.slice (some ⟨g52, 0, none⟩) L.length L.length) rfl
  have c226 := p217.cell 0 (.slice a89 M.length c90) rfl
  go_wp2_with fail
  refine (markB_seg _ _ (1 + L.length) _ _ X _ hx (by omega) s219).mono ?_
  rintro e w227 ⟨rfl, s222, d228⟩
  have b229 := b213.trans (d228.below (by have := z3.out; have := z5.out; have := z11.out; have := z19.out; have := z28.out; have := z42.out; have := z45.out; have := z51.out; have := z62.out; have := z65.out; have := z71.out; have := z85.out; have := z104.out; have := z107.out; have := z116.out; have := z132.out; have := z150.out; have := z160.out; have := z170.out; have := z188.out; have := z205.out; have := z221.out; omega) b213.size)
  have p230 := p214.span d228 (by have := z3.out; have := z5.out; have := z11.out; have := z19.out; have := z28.out; have := z42.out; have := z45.out; have := z51.out; have := z62.out; have := z65.out; have := z71.out; have := z85.out; have := z104.out; have := z107.out; have := z116.out; have := z132.out; have := z150.out; have := z160.out; have := z170.out; have := z188.out; have := z205.out; have := z221.out; omega)
  have p231 := p215.span d228 (by have := z3.out; have := z5.out; have := z11.out; have := z19.out; have := z28.out; have := z42.out; have := z45.out; have := z51.out; have := z62.out; have := z65.out; have := z71.out; have := z85.out; have := z104.out; have := z107.out; have := z116.out; have := z132.out; have := z150.out; have := z160.out; have := z170.out; have := z188.out; have := z205.out; have := z221.out; omega)
  have p232 := p216.span d228 (by have := z3.out; have := z5.out; have := z11.out; have := z19.out; have := z28.out; have := z42.out; have := z45.out; have := z51.out; have := z62.out; have := z65.out; have := z71.out; have := z85.out; have := z104.out; have := z107.out; have := z116.out; have := z132.out; have := z150.out; have := z160.out; have := z170.out; have := z188.out; have := z205.out; have := z221.out; omega)
  have p233 := p217.span d228 (by have := z3.out; have := z5.out; have := z11.out; have := z19.out; have := z28.out; have := z42.out; have := z45.out; have := z51.out; have := z62.out; have := z65.out; have := z71.out; have := z85.out; have := z104.out; have := z107.out; have := z116.out; have := z132.out; have := z150.out; have := z160.out; have := z170.out; have := z188.out; have := z205.out; have := z221.out; omega)
  have s234 := s218.span d228 (by have := z3.out; have := z5.out; have := z11.out; have := z19.out; have := z28.out; have := z42.out; have := z45.out; have := z51.out; have := z62.out; have := z65.out; have := z71.out; have := z85.out; have := z104.out; have := z107.out; have := z116.out; have := z132.out; have := z150.out; have := z160.out; have := z170.out; have := z188.out; have := z205.out; have := z221.out; omega)
  have s235 := s206.span d228 (by have := z3.out; have := z5.out; have := z11.out; have := z19.out; have := z28.out; have := z42.out; have := z45.out; have := z51.out; have := z62.out; have := z65.out; have := z71.out; have := z85.out; have := z104.out; have := z107.out; have := z116.out; have := z132.out; have := z150.out; have := z160.out; have := z170.out; have := z188.out; have := z205.out; have := z221.out; omega)
  have s236 := s220.span d228 (by have := z3.out; have := z5.out; have := z11.out; have := z19.out; have := z28.out; have := z42.out; have := z45.out; have := z51.out; have := z62.out; have := z65.out; have := z71.out; have := z85.out; have := z104.out; have := z107.out; have := z116.out; have := z132.out; have := z150.out; have := z160.out; have := z170.out; have := z188.out; have := z205.out; have := z221.out; omega)
  have z237 := Lib.hid d228.size
  clear b213 p214 p215 p216 p217 s218 s206 s220 s201 c223 c224 c225 c226 d228
  have c238 := p230.cell 0 (.slice a L.length cap) rfl
  have c239 := p231.cell 0 (.slice a32 M.length c33) rfl
  have c240 := p232.cell 0 (.slice (some ⟨g52, 0, none⟩) L.length L.length) rfl
  have c241 := p233.cell 0 (.slice a89 M.length c90) rfl
  go_wp2_with fail
  refine (eqRam_seg _ _ _ _ M _ hml s236.row s234.row).mono ?_
  rintro e w242 ⟨rfl, d243⟩
  have b244 := bstep b229 d243
  have p245 := p230.below d243
  have p246 := p231.below d243
  have p247 := p232.below d243
  have p248 := p233.below d243
  have s249 := s234.below d243
  have s250 := s235.below d243
  have s251 := s222.below d243
  have s252 := s236.below d243
  have z253 := Lib.hid d243.size
  clear b229 p230 p231 p232 p233 s234 s235 s222 s236 s219 c238 c239 c240 c241 d243
  have c255 := p245.cell 0 (.slice a L.length cap) rfl
  have c256 := p246.cell 0 (.slice a32 M.length c33) rfl
  have c257 := p247.cell 0 (.slice (some ⟨g52, 0, none⟩) L.length L.length) rfl
  have c258 := p248.cell 0 (.slice a89 M.length c90) rfl
  go_wp2_with fail
  refine (markRam_seg _ _ 1 _ _ M _ hml (by omega) s252).mono ?_
  rintro e w259 ⟨rfl, s254, d260⟩
  have b261 := b244.trans (d260.below (by have := z3.out; have := z5.out; have := z11.out; have := z19.out; have := z28.out; have := z42.out; have := z45.out; have := z51.out; have := z62.out; have := z65.out; have := z71.out; have := z85.out; have := z104.out; have := z107.out; have := z116.out; have := z132.out; have := z150.out; have := z160.out; have := z170.out; have := z188.out; have := z205.out; have := z221.out; have := z237.out; have := z253.out; omega) b244.size)
  have p262 := p245.span d260 (by have := z3.out; have := z5.out; have := z11.out; have := z19.out; have := z28.out; have := z42.out; have := z45.out; have := z51.out; have := z62.out; have := z65.out; have := z71.out; have := z85.out; have := z104.out; have := z107.out; have := z116.out; have := z132.out; have := z150.out; have := z160.out; have := z170.out; have := z188.out; have := z205.out; have := z221.out; have := z237.out; have := z253.out; omega)
  have p263 := p246.span d260 (by have := z3.out; have := z5.out; have := z11.out; have := z19.out; have := z28.out; have := z42.out; have := z45.out; have := z51.out; have := z62.out; have := z65.out; have := z71.out; have := z85.out; have := z104.out; have := z107.out; have := z116.out; have := z132.out; have := z150.out; have := z160.out; have := z170.out; have := z188.out; have := z205.out; have := z221.out; have := z237.out; have := z253.out; omega)
  have p264 := p247.span d260 (by have := z3.out; have := z5.out; have := z11.out; have := z19.out; have := z28.out; have := z42.out; have := z45.out; have := z51.out; have := z62.out; have := z65.out; have := z71.out; have := z85.out; have := z104.out; have := z107.out; have := z116.out; have := z132.out; have := z150.out; have := z160.out; have := z170.out; have := z188.out; have := z205.out; have := z221.out; have := z237.out; have := z253.out; omega)
  have p265 := p248.span d260 (by have := z3.out; have := z5.out; have := z11.out; have := z19.out; have := z28.out; have := z42.out; have := z45.out; have := z51.out; have := z62.out; have := z65.out; have := z71.out; have := z85.out; have := z104.out; have := z107.out; have := z116.out; have := z132.out; have := z150.out; have := z160.out; have := z170.out; have := z188.out; have := z205.out; have := z221.out; have := z237.out; have := z253.out; omega)
  have s266 := s249.span d260 (by have := z3.out; have := z5.out; have := z11.out; have := z19.out; have := z28.out; have := z42.out; have := z45.out; have := z51.out; have := z62.out; have := z65.out; have := z71.out; have := z85.out; have := z104.out; have := z107.out; have := z116.out; have := z132.out; have := z150.out; have := z160.out; have := z170.out; have := z188.out; have := z205.out; have := z221.out; have := z237.out; have := z253.out; omega)
  have s267 := s250.span d260 (by have := z3.out; have := z5.out; have := z11.out; have := z19.out; have := z28.out; have := z42.out; have := z45.out; have := z51.out; have := z62.out; have := z65.out; have := z71.out; have := z85.out; have := z104.out; have := z107.out; have := z116.out; have := z132.out; have := z150.out; have := z160.out; have := z170.out; have := z188.out; have := z205.out; have := z221.out; have := z237.out; have := z253.out; omega)
  have s268 := s251.span d260 (by have := z3.out; have := z5.out; have := z11.out; have := z19.out; have := z28.out; have := z42.out; have := z45.out; have := z51.out; have := z62.out; have := z65.out; have := z71.out; have := z85.out; have := z104.out; have := z107.out; have := z116.out; have := z132.out; have := z150.out; have := z160.out; have := z170.out; have := z188.out; have := z205.out; have := z221.out; have := z237.out; have := z253.out; omega)
  have z269 := Lib.hid d260.size
  clear b244 p245 p246 p247 p248 s249 s250 s251 c255 c256 c257 c258 d260
  have c270 := p262.cell 0 (.slice a L.length cap) rfl
  have c271 := p263.cell 0 (.slice a32 M.length c33) rfl
  have c272 := p264.cell 0 (.slice (some ⟨g52, 0, none⟩) L.length L.length) rfl
  have c273 := p265.cell 0 (.slice a89 M.length c90) rfl
  go_wp2_with fail
  refine (heldRam_seg _ _ 1 M.length _ _ _ hml (by omega) s254).mono ?_
  rintro e w274 ⟨rfl, d275⟩
  have b276 := bstep b261 d275
  have p277 := p262.below d275
  have p278 := p263.below d275
  have p279 := p264.below d275
  have p280 := p265.below d275
  have s281 := s266.below d275
  have s282 := s267.below d275
  have s283 := s268.below d275
  have s284 := s254.below d275
  have z285 := Lib.hid d275.size
  clear b261 p262 p263 p264 p265 s266 s267 s268 s254 s252 c270 c271 c272 c273 d275
  have c288 := p277.cell 0 (.slice a L.length cap) rfl
  have c289 := p278.cell 0 (.slice a32 M.length c33) rfl
  have c290 := p279.cell 0 (.slice (some ⟨g52, 0, none⟩) L.length L.length) rfl
  have c291 := p280.cell 0 (.slice a89 M.length c90) rfl
  go_wp2_with fail
  refine (toRam_seg a cap L _ hl (hr.below b276)).mono ?_
  rintro e w292 ⟨g286, rfl, s287, d293⟩
  have b294 := bstep b276 d293
  have p295 := p277.below d293
  have p296 := p278.below d293
  have p297 := p279.below d293
  have p298 := p280.below d293
  have s299 := s281.below d293
  have s300 := s282.below d293
  have s301 := s283.below d293
  have s302 := s284.below d293
  have z303 := Lib.hid d293.size
  clear b276 p277 p278 p279 p280 s281 s282 s283 s284 c288 c289 c290 c291 d293
  have c306 := p295.cell 0 (.slice a L.length cap) rfl
  have c307 := p296.cell 0 (.slice a32 M.length c33) rfl
  have c308 := p297.cell 0 (.slice (some ⟨g52, 0, none⟩) L.length L.length) rfl
  have c309 := p298.cell 0 (.slice a89 M.length c90) rfl
  go_wp2_with fail
  refine (toB_seg ax capx X _ hx (hrx.below b294)).mono ?_
  rintro e w310 ⟨g304, rfl, s305, d311⟩
  have b312 := bstep b294 d311
  have p313 := p295.below d311
  have p314 := p296.below d311
  have p315 := p297.below d311
  have p316 := p298.below d311
  have s317 := s299.below d311
  have s318 := s300.below d311
  have s319 := s301.below d311
  have s320 := s302.below d311
  have s321 := s287.below d311
  have z322 := Lib.hid d311.size
  clear b294 p295 p296 p297 p298 s299 s300 s301 s302 s287 c306 c307 c308 c309 d311
  have c329 := p313.cell 0 (.slice a L.length cap) rfl
  have c330 := p314.cell 0 (.slice a32 M.length c33) rfl
  have c331 := p315.cell 0 (.slice (some ⟨g52, 0, none⟩) L.length L.length) rfl
  have c332 := p316.cell 0 (.slice a89 M.length c90) rfl
  go_wp2_with fail
  refine (HI _ L.length addr L _ X.length X _ ha hl (Nat.le_refl _) hx (Nat.le_refl _) s321.row s305.row).mono ?_
  rintro e w333 ⟨v323, rfl, o324, d334⟩
  rw [HM.out] at o324
  have s325 := SegB.of o324
  obtain ⟨a326, c327, rfl, h328⟩ := s325.len
  clear o324
  have b335 := bstep b312 d334
  have p336 := p313.below d334
  have p337 := p314.below d334
  have p338 := p315.below d334
  have p339 := p316.below d334
  have s340 := s317.below d334
  have s341 := s318.below d334
  have s342 := s319.below d334
  have s343 := s320.below d334
  have s344 := s321.below d334
  have s345 := s305.below d334
  have z346 := Lib.hid d334.size
  clear b312 p313 p314 p315 p316 s317 s318 s319 s320 s321 s305 c329 c330 c331 c332 d334
  have d347 : Below w333.heap.size w333 (w333.alloc (.cells #[.slice a326 M.length c327] 25)) := (Below.refl _ _).alloc (Nat.le_refl _) _
  have p348 : BoxN (w333.alloc (.cells #[.slice a326 M.length c327] 25)) w333.heap.size 25 #[.slice a326 M.length c327] := BoxN.new _ _ _
  have z349 : Hid ((w333.alloc (.cells #[.slice a326 M.length c327] 25)).heap.size = w333.heap.size + 1) := Lib.hid (World.size_alloc _ _)
  have b350 := bstep b335 d347
  have p351 := p336.below d347
  have p352 := p337.below d347
  have p353 := p338.below d347
  have p354 := p339.below d347
  have s355 := s340.below d347
  have s356 := s341.below d347
  have s357 := s342.below d347
  have s358 := s343.below d347
  have s359 := s344.below d347
  have s360 := s345.below d347
  have s361 := s325.below d347
  have z362 := Lib.hid d347.size
  clear b335 p336 p337 p338 p339 s340 s341 s342 s343 s344 s345 s325 d347
  have c363 := p351.cell 0 (.slice a L.length cap) rfl
  have c364 := p352.cell 0 (.slice a32 M.length c33) rfl
  have c365 := p354.cell 0 (.slice a89 M.length c90) rfl
  have c366 := p348.cell 0 (.slice a326 M.length c327) rfl
  go_wp2_with fail
  refine (eqRam_seg _ _ _ _ M _ hml s361.row s355.row).mono ?_
  rintro e w367 ⟨rfl, d368⟩
  have b369 := bstep b350 d368
  have p370 := p351.below d368
  have p371 := p352.below d368
  have p372 := p354.below d368
  have p373 := p348.below d368
  have s374 := s355.below d368
  have s375 := s358.below d368
  have s376 := s361.below d368
  have z377 := Lib.hid d368.size
  clear b350 p351 p352 p354 p348 s355 s358 s361 s359 s360 s356 p353 s357 c363 c364 c365 c366 d368
  have c378 := p370.cell 0 (.slice a L.length cap) rfl
  have c379 := p371.cell 0 (.slice a32 M.length c33) rfl
  have c380 := p372.cell 0 (.slice a89 M.length c90) rfl
  have c381 := p373.cell 0 (.slice a326 M.length c327) rfl
  go_wp2_with fail
  refine (heldRam_seg _ _ 1 M.length _ _ _ hml (by omega) s375).mono ?_
  rintro e w382 ⟨rfl, d383⟩
  have b384 := bstep b369 d383
  have p385 := p370.below d383
  have p386 := p371.below d383
  have p387 := p372.below d383
  have p388 := p373.below d383
  have s389 := s374.below d383
  have s390 := s375.below d383
  have s391 := s376.below d383
  have z392 := Lib.hid d383.size
  clear b369 p370 p371 p372 p373 s374 s375 s376 c378 c379 c380 c381 d383
  go_wp2
  go_ret
  exact ⟨rfl, b384⟩

end Go.Proofs.Ytppkcljpfjdlnaa
