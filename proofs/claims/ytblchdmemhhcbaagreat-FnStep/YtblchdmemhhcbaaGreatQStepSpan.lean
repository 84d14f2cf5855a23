/-
  What a call may change of the memory: only the blocks from lo up to hi. Boxes and rows elsewhere stand as they stood.
-/
import Derived.Test.YtblchdmemhhcbaaGreatQStepAluC
import Derived.Deep.RegionWith
import Derived.Test.YtblchdmemhhcbaaGreatQStepAluNum
import Derived.RangeFuncBox
namespace Go.Proofs.YtblchdmemhhcbaaGreat
set_option linter.unusedVariables false
set_option linter.unusedSimpArgs false
open Go.RowKit


set_option maxRecDepth 100000 in
set_option maxHeartbeats 800000 in
theorem subtractDecimal_any (a b : Int) (c : Bool) (w : World) (h0 : 0 ≤ a) (h1 : a ≤ 255) (h2 : 0 ≤ b) (h3 : b ≤ 255) :
    Calls Tryz.prog 171 #[.int .u8 a, .int .u8 b, .bool c] w fun e w' => e = .returned (.int .u8 (sbT a b c % 256)) ∧ w = w' := by
  obtain ⟨ci, hci⟩ : ∃ x, bI (!c) 1 = x := ⟨_, rfl⟩
  obtain ⟨hc0, hc1⟩ : 0 ≤ ci ∧ ci ≤ 1 := by rw [← hci]; exact bI_bd _ 1 (by decide)
  have HCI := Lib.hid hci
  clear hci
  have e1 := and15_u8 a h0 h1
  have e2 := and15_u8 b h2 h3
  have e3 := and240_u8 a h0 h1
  have e4 := and240_u8 b h2 h3
  have e5 := and15_i64 (a % 16 - b % 16 - ci - 6)
  have HS := Lib.hid (show sbS a b c = a % 16 - b % 16 - ci by unfold sbS; rw [← HCI.out]; cases c <;> simp [bI] <;> omega)
  by_cases hl : a % 16 - b % 16 - ci < 0
  · have HL := Lib.hid (show sbL a b c = ((a % 16 - b % 16 - ci - 6) % 16 - 16) by unfold sbL; rw [HS.out, if_pos hl])
    have HH := Lib.hid (show sbH a b c = a - a % 16 - (b - b % 16) + ((a % 16 - b % 16 - ci - 6) % 16 - 16) by unfold sbH; rw [HL.out])
    by_cases hh : a - a % 16 - (b - b % 16) + ((a % 16 - b % 16 - ci - 6) % 16 - 16) < 0
    · have HT := Lib.hid (show sbT a b c = a - a % 16 - (b - b % 16) + ((a % 16 - b % 16 - ci - 6) % 16 - 16) - 96 by unfold sbT; rw [HH.out, if_pos hh])
      go_enter Tryz.func171, Tryz.ntmps171
      go_wp2_with fail
      refine (bitWhere_any _ _ _).mono ?_
      rintro e w' ⟨rfl, rfl⟩
      rw [HCI.out]
      go_wp2
      go_ret
      exact ⟨ret_intA (by rw [HT.out]), rfl⟩
    · have HT := Lib.hid (show sbT a b c = a - a % 16 - (b - b % 16) + ((a % 16 - b % 16 - ci - 6) % 16 - 16) by unfold sbT; rw [HH.out, if_neg hh])
      have hh2 : 0 ≤ a - a % 16 - (b - b % 16) + ((a % 16 - b % 16 - ci - 6) % 16 - 16) := by omega
      clear hh
      have HM := Lib.hid (show (a - a % 16 - (b - b % 16) + ((a % 16 - b % 16 - ci - 6) % 16 - 16)) % 256 = a - a % 16 - (b - b % 16) + ((a % 16 - b % 16 - ci - 6) % 16 - 16) by omega)
      go_enter Tryz.func171, Tryz.ntmps171
      go_wp2_with fail
      refine (bitWhere_any _ _ _).mono ?_
      rintro e w' ⟨rfl, rfl⟩
      rw [HCI.out]
      go_wp2
      go_ret
      exact ⟨ret_intA (by rw [HT.out]; first | rfl | omega), rfl⟩
  · have HL := Lib.hid (show sbL a b c = (a % 16 - b % 16 - ci) by unfold sbL; rw [HS.out, if_neg hl])
    have HH := Lib.hid (show sbH a b c = a - a % 16 - (b - b % 16) + (a % 16 - b % 16 - ci) by unfold sbH; rw [HL.out])
    have hl2 : 0 ≤ a % 16 - b % 16 - ci := by omega
    clear hl
    by_cases hh : a - a % 16 - (b - b % 16) + (a % 16 - b % 16 - ci) < 0
    · have HT := Lib.hid (show sbT a b c = a - a % 16 - (b - b % 16) + (a % 16 - b % 16 - ci) - 96 by unfold sbT; rw [HH.out, if_pos hh])
      go_enter Tryz.func171, Tryz.ntmps171
      go_wp2_with fail
      refine (bitWhere_any _ _ _).mono ?_
      rintro e w' ⟨rfl, rfl⟩
      rw [HCI.out]
      go_wp2
      go_ret
      exact ⟨ret_intA (by rw [HT.out]), rfl⟩
    · have HT := Lib.hid (show sbT a b c = a - a % 16 - (b - b % 16) + (a % 16 - b % 16 - ci) by unfold sbT; rw [HH.out, if_neg hh])
      have hh2 : 0 ≤ a - a % 16 - (b - b % 16) + (a % 16 - b % 16 - ci) := by omega
      clear hh
      have HM := Lib.hid (show (a - a % 16 - (b - b % 16) + (a % 16 - b % 16 - ci)) % 256 = a - a % 16 - (b - b % 16) + (a % 16 - b % 16 - ci) by omega)
      go_enter Tryz.func171, Tryz.ntmps171
      go_wp2_with fail
      refine (bitWhere_any _ _ _).mono ?_
      rintro e w' ⟨rfl, rfl⟩
      rw [HCI.out]
      go_wp2
      go_ret
      exact ⟨ret_intA (by rw [HT.out]; first | rfl | omega), rfl⟩

set_option maxRecDepth 100000 in
theorem implSbc_plain (a b : Int) (n v i z c : Bool) (w : World) (h0 : 0 ≤ a) (h1 : a ≤ 255) (h2 : 0 ≤ b) (h3 : b ≤ 255) :
    Calls Tryz.prog 162 #[.int .u8 a, .int .u8 b, .agg #[.bool n, .bool v, .bool false, .bool i, .bool z, .bool c]] w fun e w' => e = .returned (.tuple #[.int .u8 (plR a (255 - b) c), .agg #[.bool (bit7 (plR a (255 - b) c)), .bool (plV a (255 - b) c), .bool false, .bool i, .bool (isZ (plR a (255 - b) c)), .bool (plC a (255 - b) c)]]) ∧ Below w.heap.size w w' := by
  have e0 := compl_u8 b h2 h3
  have q0 : 0 ≤ 255 - b := by omega
  have q1 : 255 - b ≤ 255 := by omega
  go_enter Tryz.func162, Tryz.ntmps162
  go_wp2_with fail
  refine (addBinary_any _ _ _ _ _ _ _ _ _ h0 h1 q0 q1).mono ?_
  rintro e w1 ⟨rfl, hb⟩
  obtain ⟨hc, hf⟩ := bcell hb
  obtain ⟨c0, c1, c2, c3, c4, c5, f0, f1, f2, f3, f4, f5⟩ := box6 hb
  have hz : w.heap.size + 1 < w1.heap.size := by have := hb.size; simp at this; omega
  have hz0 : w.heap.size < w1.heap.size := by omega
  have hbw : Below w.heap.size w w1 := (((Below.refl _ _).alloc (Nat.le_refl _) _).alloc (by simp) _).trans (hb.mono (by simp; omega))
  go_wp2_with fail
  go_region
  all_goals
    go_wp2
    refine bodyPost_ret (v := (.tuple #[.int .u8 (plR a (255 - b) c), .agg #[.bool (bit7 (plR a (255 - b) c)), .bool (plV a (255 - b) c), .bool false, .bool i, .bool (isZ (plR a (255 - b) c)), .bool (plC a (255 - b) c)]])) (by simp [results, Tryz.results162, go_sem, hc, hz, hz0]) rfl ⟨rfl, ?_⟩
    repeat (any_goals (first | (with_reducible exact hbw) | (with_reducible refine Below.drew ?_) | (with_reducible refine Below.setCell ?_ ?_ _) | (with_reducible refine Below.alloc ?_ ?_ _)))
    all_goals (first | (simp; done) | (simp; omega))

set_option maxRecDepth 100000 in
theorem implSbc_dec (a b : Int) (n v i z c : Bool) (w : World) (h0 : 0 ≤ a) (h1 : a ≤ 255) (h2 : 0 ≤ b) (h3 : b ≤ 255) :
    Calls Tryz.prog 162 #[.int .u8 a, .int .u8 b, .agg #[.bool n, .bool v, .bool true, .bool i, .bool z, .bool c]] w fun e w' => e = .returned (.tuple #[.int .u8 (sbT a b c % 256), .agg #[.bool (bit7 (plR a (255 - b) c)), .bool (plV a (255 - b) c), .bool true, .bool i, .bool (isZ (plR a (255 - b) c)), .bool (plC a (255 - b) c)]]) ∧ Below w.heap.size w w' := by
  have e0 := compl_u8 b h2 h3
  have q0 : 0 ≤ 255 - b := by omega
  have q1 : 255 - b ≤ 255 := by omega
  go_enter Tryz.func162, Tryz.ntmps162
  go_wp2_with fail
  refine (addBinary_any _ _ _ _ _ _ _ _ _ h0 h1 q0 q1).mono ?_
  rintro e w1 ⟨rfl, hb⟩
  obtain ⟨hc, hf⟩ := bcell hb
  obtain ⟨c0, c1, c2, c3, c4, c5, f0, f1, f2, f3, f4, f5⟩ := box6 hb
  have hz : w.heap.size + 1 < w1.heap.size := by have := hb.size; simp at this; omega
  have hz0 : w.heap.size < w1.heap.size := by omega
  have hbw : Below w.heap.size w w1 := (((Below.refl _ _).alloc (Nat.le_refl _) _).alloc (by simp) _).trans (hb.mono (by simp; omega))
  go_wp2_with fail
  go_region_with (go_at_call 171; refine (subtractDecimal_any _ _ _ _ h0 h1 h2 h3).mono ?_; rintro e w' ⟨rfl, rfl⟩)
  all_goals
    go_wp2
    refine bodyPost_ret (v := (.tuple #[.int .u8 (sbT a b c % 256), .agg #[.bool (bit7 (plR a (255 - b) c)), .bool (plV a (255 - b) c), .bool true, .bool i, .bool (isZ (plR a (255 - b) c)), .bool (plC a (255 - b) c)]])) (by simp [results, Tryz.results162, go_sem, hc, hz, hz0]) rfl ⟨rfl, ?_⟩
    repeat (any_goals (first | (with_reducible exact hbw) | (with_reducible refine Below.drew ?_) | (with_reducible refine Below.setCell ?_ ?_ _) | (with_reducible refine Below.alloc ?_ ?_ _)))
    all_goals (first | (simp; done) | (simp; omega))

set_option maxRecDepth 100000 in
theorem specSbc_plain (a b : Int) (n v i z c : Bool) (w : World) (h0 : 0 ≤ a) (h1 : a ≤ 255) (h2 : 0 ≤ b) (h3 : b ≤ 255) :
    Calls Tryz.prog 128 #[.int .u8 a, .int .u8 b, .agg #[.bool n, .bool v, .bool false, .bool i, .bool z, .bool c]] w fun e w' => e = .returned (.tuple #[.int .u8 (plR a (255 - b) c), .agg #[.bool (bit7 (plR a (255 - b) c)), .bool (plV a (255 - b) c), .bool false, .bool i, .bool (isZ (plR a (255 - b) c)), .bool (plC a (255 - b) c)]]) ∧ Below w.heap.size w w' := by
  have q0 : 0 ≤ 255 - b := by omega
  have q1 : 255 - b ≤ 255 := by omega
  go_enter Tryz.func128, Tryz.ntmps128
  go_wp2_with fail
  refine (l02Plain_any _ _ _ _ _ _ _ _ _ h0 h1 q0 q1).mono ?_
  rintro e w1 ⟨rfl, hb⟩
  obtain ⟨hc, hf⟩ := bcell hb
  obtain ⟨c0, c1, c2, c3, c4, c5, f0, f1, f2, f3, f4, f5⟩ := box6 hb
  have hz : w.heap.size + 1 < w1.heap.size := by have := hb.size; simp at this; omega
  have hz0 : w.heap.size < w1.heap.size := by omega
  have hbw : Below w.heap.size w w1 := (((Below.refl _ _).alloc (Nat.le_refl _) _).alloc (by simp) _).trans (hb.mono (by simp; omega))
  go_wp2
  go_region
  all_goals
    go_wp2
    refine bodyPost_ret (v := (.tuple #[.int .u8 (plR a (255 - b) c), .agg #[.bool (bit7 (plR a (255 - b) c)), .bool (plV a (255 - b) c), .bool false, .bool i, .bool (isZ (plR a (255 - b) c)), .bool (plC a (255 - b) c)]])) (by simp [results, Tryz.results128, go_sem, hc, hz, hz0]) rfl ⟨rfl, ?_⟩
    repeat (any_goals (first | (with_reducible exact hbw) | (with_reducible refine Below.drew ?_) | (with_reducible refine Below.setCell ?_ ?_ _) | (with_reducible refine Below.alloc ?_ ?_ _)))
    all_goals (first | (simp; done) | (simp; omega))

set_option maxRecDepth 100000 in
set_option maxHeartbeats 800000 in
theorem specSbc_dec (a b : Int) (n v i z c : Bool) (w : World) (h0 : 0 ≤ a) (h1 : a ≤ 255) (h2 : 0 ≤ b) (h3 : b ≤ 255) :
    Calls Tryz.prog 128 #[.int .u8 a, .int .u8 b, .agg #[.bool n, .bool v, .bool true, .bool i, .bool z, .bool c]] w fun e w' => e = .returned (.tuple #[.int .u8 (sbT a b c % 256), .agg #[.bool (bit7 (plR a (255 - b) c)), .bool (plV a (255 - b) c), .bool true, .bool i, .bool (isZ (plR a (255 - b) c)), .bool (plC a (255 - b) c)]]) ∧ Below w.heap.size w w' := by
  have q0 : 0 ≤ 255 - b := by omega
  have q1 : 255 - b ≤ 255 := by omega
  obtain ⟨ci, hci⟩ : ∃ x, bI c 1 = x := ⟨_, rfl⟩
  obtain ⟨hc0, hc1⟩ : 0 ≤ ci ∧ ci ≤ 1 := by rw [← hci]; exact bI_bd c 1 (by decide)
  have HCI := Lib.hid hci
  clear hci
  have e1 := and15_u8 a h0 h1
  have e2 := and15_u8 b h2 h3
  have e3 := and240_u8 a h0 h1
  have e4 := and240_u8 b h2 h3
  have e5 := and15_i64 (a % 16 - b % 16 - 1 + ci - 6)
  have HS := Lib.hid (show sbS a b c = a % 16 - b % 16 - 1 + ci by unfold sbS; rw [← HCI.out])
  by_cases hl : a % 16 - b % 16 - 1 + ci < 0
  · have HL := Lib.hid (show sbL a b c = ((a % 16 - b % 16 - 1 + ci - 6) % 16 - 16) by unfold sbL; rw [HS.out, if_pos hl])
    have HH := Lib.hid (show sbH a b c = a - a % 16 - (b - b % 16) + ((a % 16 - b % 16 - 1 + ci - 6) % 16 - 16) by unfold sbH; rw [HL.out])
    by_cases hh : a - a % 16 - (b - b % 16) + ((a % 16 - b % 16 - 1 + ci - 6) % 16 - 16) < 0
    · have HT := Lib.hid (show sbT a b c = a - a % 16 - (b - b % 16) + ((a % 16 - b % 16 - 1 + ci - 6) % 16 - 16) - 96 by unfold sbT; rw [HH.out, if_pos hh])
      have e6 := and255_i64 (a - a % 16 - (b - b % 16) + ((a % 16 - b % 16 - 1 + ci - 6) % 16 - 16) - 96)
      go_enter Tryz.func128, Tryz.ntmps128
      go_wp2_with fail
      refine (l02Plain_any _ _ _ _ _ _ _ _ _ h0 h1 q0 q1).mono ?_
      rintro e w1 ⟨rfl, hb⟩
      obtain ⟨hc, hf⟩ := bcell hb
      obtain ⟨c0, c1, c2, c3, c4, c5, f0, f1, f2, f3, f4, f5⟩ := box6 hb
      have hz : w.heap.size + 1 < w1.heap.size := by have := hb.size; simp at this; omega
      have hz0 : w.heap.size < w1.heap.size := by omega
      have hbw : Below w.heap.size w w1 := (((Below.refl _ _).alloc (Nat.le_refl _) _).alloc (by simp) _).trans (hb.mono (by simp; omega))
      go_wp2_with fail
      refine (l02Bit_any _ _ _).mono ?_
      rintro e w' ⟨rfl, rfl⟩
      rw [HCI.out]
      go_wp2
      go_region
      all_goals
        go_wp2
        refine bodyPost_ret (v := (.tuple #[.int .u8 (sbT a b c % 256), .agg #[.bool (bit7 (plR a (255 - b) c)), .bool (plV a (255 - b) c), .bool true, .bool i, .bool (isZ (plR a (255 - b) c)), .bool (plC a (255 - b) c)]])) (by simp [results, Tryz.results128, go_sem, hc, hz, hz0, HT.out]) rfl ⟨rfl, ?_⟩
        repeat (any_goals (first | (with_reducible exact hbw) | (with_reducible refine Below.drew ?_) | (with_reducible refine Below.setCell ?_ ?_ _) | (with_reducible refine Below.alloc ?_ ?_ _)))
        all_goals (first | (simp; done) | (simp; omega))
    · have HT := Lib.hid (show sbT a b c = a - a % 16 - (b - b % 16) + ((a % 16 - b % 16 - 1 + ci - 6) % 16 - 16) by unfold sbT; rw [HH.out, if_neg hh])
      have hh2 : 0 ≤ a - a % 16 - (b - b % 16) + ((a % 16 - b % 16 - 1 + ci - 6) % 16 - 16) := by omega
      clear hh
      have HM := Lib.hid (show (a - a % 16 - (b - b % 16) + ((a % 16 - b % 16 - 1 + ci - 6) % 16 - 16)) % 256 = a - a % 16 - (b - b % 16) + ((a % 16 - b % 16 - 1 + ci - 6) % 16 - 16) by omega)
      have e6 := and255_i64 (a - a % 16 - (b - b % 16) + ((a % 16 - b % 16 - 1 + ci - 6) % 16 - 16))
      go_enter Tryz.func128, Tryz.ntmps128
      go_wp2_with fail
      refine (l02Plain_any _ _ _ _ _ _ _ _ _ h0 h1 q0 q1).mono ?_
      rintro e w1 ⟨rfl, hb⟩
      obtain ⟨hc, hf⟩ := bcell hb
      obtain ⟨c0, c1, c2, c3, c4, c5, f0, f1, f2, f3, f4, f5⟩ := box6 hb
      have hz : w.heap.size + 1 < w1.heap.size := by have := hb.size; simp at this; omega
      have hz0 : w.heap.size < w1.heap.size := by omega
      have hbw : Below w.heap.size w w1 := (((Below.refl _ _).alloc (Nat.le_refl _) _).alloc (by simp) _).trans (hb.mono (by simp; omega))
      go_wp2_with fail
      refine (l02Bit_any _ _ _).mono ?_
      rintro e w' ⟨rfl, rfl⟩
      rw [HCI.out]
      go_wp2
      go_region
      all_goals
        go_wp2
        refine bodyPost_ret (v := (.tuple #[.int .u8 (sbT a b c % 256), .agg #[.bool (bit7 (plR a (255 - b) c)), .bool (plV a (255 - b) c), .bool true, .bool i, .bool (isZ (plR a (255 - b) c)), .bool (plC a (255 - b) c)]])) (by simp [results, Tryz.results128, go_sem, hc, hz, hz0, HT.out, HM.out]) rfl ⟨rfl, ?_⟩
        repeat (any_goals (first | (with_reducible exact hbw) | (with_reducible refine Below.drew ?_) | (with_reducible refine Below.setCell ?_ ?_ _) | (with_reducible refine Below.alloc ?_ ?_ _)))
        all_goals (first | (simp; done) | (simp; omega))
  · have HL := Lib.hid (show sbL a b c = (a % 16 - b % 16 - 1 + ci) by unfold sbL; rw [HS.out, if_neg hl])
    have HH := Lib.hid (show sbH a b c = a - a % 16 - (b - b % 16) + (a % 16 - b % 16 - 1 + ci) by unfold sbH; rw [HL.out])
    have hl2 : 0 ≤ a % 16 - b % 16 - 1 + ci := by omega
    clear hl
    by_cases hh : a - a % 16 - (b - b % 16) + (a % 16 - b % 16 - 1 + ci) < 0
    · have HT := Lib.hid (show sbT a b c = a - a % 16 - (b - b % 16) + (a % 16 - b % 16 - 1 + ci) - 96 by unfold sbT; rw [HH.out, if_pos hh])
      have e6 := and255_i64 (a - a % 16 - (b - b % 16) + (a % 16 - b % 16 - 1 + ci) - 96)
      go_enter Tryz.func128, Tryz.ntmps128
      go_wp2_with fail
      refine (l02Plain_any _ _ _ _ _ _ _ _ _ h0 h1 q0 q1).mono ?_
      rintro e w1 ⟨rfl, hb⟩
      obtain ⟨hc, hf⟩ := bcell hb
      obtain ⟨c0, c1, c2, c3, c4, c5, f0, f1, f2, f3, f4, f5⟩ := box6 hb
      have hz : w.heap.size + 1 < w1.heap.size := by have := hb.size; simp at this; omega
      have hz0 : w.heap.size < w1.heap.size := by omega
      have hbw : Below w.heap.size w w1 := (((Below.refl _ _).alloc (Nat.le_refl _) _).alloc (by simp) _).trans (hb.mono (by simp; omega))
      go_wp2_with fail
      refine (l02Bit_any _ _ _).mono ?_
      rintro e w' ⟨rfl, rfl⟩
      rw [HCI.out]
      go_wp2
      go_region
      all_goals
        go_wp2
        refine bodyPost_ret (v := (.tuple #[.int .u8 (sbT a b c % 256), .agg #[.bool (bit7 (plR a (255 - b) c)), .bool (plV a (255 - b) c), .bool true, .bool i, .bool (isZ (plR a (255 - b) c)), .bool (plC a (255 - b) c)]])) (by simp [results, Tryz.results128, go_sem, hc, hz, hz0, HT.out]) rfl ⟨rfl, ?_⟩
        repeat (any_goals (first | (with_reducible exact hbw) | (with_reducible refine Below.drew ?_) | (with_reducible refine Below.setCell ?_ ?_ _) | (with_reducible refine Below.alloc ?_ ?_ _)))
        all_goals (first | (simp; done) | (simp; omega))
    · have HT := Lib.hid (show sbT a b c = a - a % 16 - (b - b % 16) + (a % 16 - b % 16 - 1 + ci) by unfold sbT; rw [HH.out, if_neg hh])
      have hh2 : 0 ≤ a - a % 16 - (b - b % 16) + (a % 16 - b % 16 - 1 + ci) := by omega
      clear hh
      have HM := Lib.hid (show (a - a % 16 - (b - b % 16) + (a % 16 - b % 16 - 1 + ci)) % 256 = a - a % 16 - (b - b % 16) + (a % 16 - b % 16 - 1 + ci) by omega)
      have e6 := and255_i64 (a - a % 16 - (b - b % 16) + (a % 16 - b % 16 - 1 + ci))
      go_enter Tryz.func128, Tryz.ntmps128
      go_wp2_with fail
      refine (l02Plain_any _ _ _ _ _ _ _ _ _ h0 h1 q0 q1).mono ?_
      rintro e w1 ⟨rfl, hb⟩
      obtain ⟨hc, hf⟩ := bcell hb
      obtain ⟨c0, c1, c2, c3, c4, c5, f0, f1, f2, f3, f4, f5⟩ := box6 hb
      have hz : w.heap.size + 1 < w1.heap.size := by have := hb.size; simp at this; omega
      have hz0 : w.heap.size < w1.heap.size := by omega
      have hbw : Below w.heap.size w w1 := (((Below.refl _ _).alloc (Nat.le_refl _) _).alloc (by simp) _).trans (hb.mono (by simp; omega))
      go_wp2_with fail
      refine (l02Bit_any _ _ _).mono ?_
      rintro e w' ⟨rfl, rfl⟩
      rw [HCI.out]
      go_wp2
      go_region
      all_goals
        go_wp2
        refine bodyPost_ret (v := (.tuple #[.int .u8 (sbT a b c % 256), .agg #[.bool (bit7 (plR a (255 - b) c)), .bool (plV a (255 - b) c), .bool true, .bool i, .bool (isZ (plR a (255 - b) c)), .bool (plC a (255 - b) c)]])) (by simp [results, Tryz.results128, go_sem, hc, hz, hz0, HT.out, HM.out]) rfl ⟨rfl, ?_⟩
        repeat (any_goals (first | (with_reducible exact hbw) | (with_reducible refine Below.drew ?_) | (with_reducible refine Below.setCell ?_ ?_ _) | (with_reducible refine Below.alloc ?_ ?_ _)))
        all_goals (first | (simp; done) | (simp; omega))

theorem implSbc_any (a b : Int) (n v d i z c : Bool) (w : World) (h0 : 0 ≤ a) (h1 : a ≤ 255) (h2 : 0 ≤ b) (h3 : b ≤ 255) :
    Calls Tryz.prog 162 #[.int .u8 a, .int .u8 b, .agg #[.bool n, .bool v, .bool d, .bool i, .bool z, .bool c]] w fun e w' => e = .returned (.tuple #[.int .u8 (sbR a b d c), .agg #[.bool (bit7 (plR a (255 - b) c)), .bool (plV a (255 - b) c), .bool d, .bool i, .bool (isZ (plR a (255 - b) c)), .bool (plC a (255 - b) c)]]) ∧ Below w.heap.size w w' := by
  cases d
  · exact implSbc_plain a b n v i z c w h0 h1 h2 h3
  · exact implSbc_dec a b n v i z c w h0 h1 h2 h3

theorem specSbc_any (a b : Int) (n v d i z c : Bool) (w : World) (h0 : 0 ≤ a) (h1 : a ≤ 255) (h2 : 0 ≤ b) (h3 : b ≤ 255) :
    Calls Tryz.prog 128 #[.int .u8 a, .int .u8 b, .agg #[.bool n, .bool v, .bool d, .bool i, .bool z, .bool c]] w fun e w' => e = .returned (.tuple #[.int .u8 (sbR a b d c), .agg #[.bool (bit7 (plR a (255 - b) c)), .bool (plV a (255 - b) c), .bool d, .bool i, .bool (isZ (plR a (255 - b) c)), .bool (plC a (255 - b) c)]]) ∧ Below w.heap.size w w' := by
  cases d
  · exact specSbc_plain a b n v i z c w h0 h1 h2 h3
  · exact specSbc_dec a b n v i z c w h0 h1 h2 h3

end Go.Proofs.YtblchdmemhhcbaaGreat

namespace Go.Proofs.YtblchdmemhhcbaaGreat
set_option linter.unusedVariables false
set_option linter.unusedSimpArgs false
open Go.RowKit

theorem OwnB.base {w : World} {b b' : Nat} {v : Value} {L : List Nat} (h : OwnB w b v L) (hb : b' ≤ b) : OwnB w b' v L := by
  refine ⟨h.1, h.2.1, ?_⟩
  rcases h.2.2 with hn | ⟨g, cap, cur, hv, hg, rest⟩
  · exact .inl hn
  · exact .inr ⟨g, cap, cur, hv, Nat.le_trans hb hg, rest⟩

theorem OwnB.cells {w : World} {base : Nat} {v : Value} {L : List Nat} (h : OwnB w base v L) (hl : 0 < L.length) : ∃ g cap, v = .slice (some ⟨g, 0, none⟩) L.length cap ∧ ∀ j u, (L.map u8V)[j]? = some u → w.cell? ((⟨g, 0, none⟩ : Addr).add j) = some u := by
  have h' := h.2
  rcases h.2.2 with ⟨_, h0⟩ | ⟨g, cap, cur, rfl, _⟩
  · omega
  · exact ⟨g, cap, rfl, World.ownsRow.cells h' (g := g) rfl⟩

theorem u8V_one (L : List Nat) : ∀ u ∈ L.map u8V, u.oneCell' = true := by
  intro u hu
  obtain ⟨x, _, rfl⟩ := List.mem_map.1 hu
  rfl

theorem RowB.byte' {w : World} {a : Option Addr} {L : List Nat} (h : RowB w a L) (i : Nat) : L.getD i 0 < 256 := by
  by_cases hi : i < L.length
  · exact h.1 i hi
  · simp [List.getD, List.getElem?_eq_none (by omega : L.length ≤ i)]

theorem ownB_ne {w w' : World} {base g : Nat} {v : Value} {L : List Nat} (h : OwnB w base v L) (hg : w.grownBy w' (some g)) (hne : ∀ k, v.ownBlock = some k → k ≠ g) : OwnB w' base v L := by
  refine ⟨h.1, World.ownsRow.kept h.2 hg ?_⟩
  cases hv : v.ownBlock with
  | none => exact .inl rfl
  | some k => exact .inr (by simpa using hne k hv)

theorem ownNew (w : World) (L : List Nat) (hL : L.length ≤ 3) (hb : ∀ i, i < L.length → L.getD i 0 < 256) : OwnB (w.alloc (.cells (L.map u8V).toArray 5)) w.heap.size (.slice (some ⟨w.heap.size, 0, none⟩) L.length L.length) L :=
  ⟨hb, by simp, .inr ⟨w.heap.size, L.length, (L.map u8V).toArray, rfl, Nat.le_refl _, heap_alloc_new w _, Nat.le_refl _, by unfold maxLen; omega, by simp, by simp [List.take_of_length_le]⟩⟩

theorem ownNil (w : World) (B : Nat) : OwnB w B (.slice none 0 0) [] := ⟨fun i hi => by simp at hi, World.ownsRow_nil _ _ _ _⟩

theorem bstep {w a b : World} (h : Below w.heap.size w a) (k : Below a.heap.size a b) : Below w.heap.size w b := h.trans (k.mono h.size)

/-- A cell of an older block, as it was. -/
theorem cellKept {w w1 : World} {g o : Nat} {v : Value} (hb : Below w.heap.size w w1) (h : w.cell? ⟨g, o, none⟩ = some v) (hg : g < w.heap.size) : w1.cell? ⟨g, o, none⟩ = some v := by
  rw [hb.cell (p := ⟨g, o, none⟩) hg]; exact h

theorem emptyOwn {base B : Nat} (w : World) (hB : B = w.heap.size) (hb : base ≤ w.heap.size) : (w.alloc (.cells #[] 5)).ownsRow base 5 1 (.slice (some ⟨B, 0, none⟩) 0 0) 0 [] := by
  subst hB; exact World.ownsRow_made w #[] 0 hb (by decide) rfl

end Go.Proofs.YtblchdmemhhcbaaGreat

namespace Go.Proofs.YtblchdmemhhcbaaGreat
set_option linter.unusedVariables false
set_option linter.unusedSimpArgs false
open Go.RowKit

structure Span (lo hi : Nat) (w w' : World) : Prop where
  os : w'.os = w.os
  tape : w'.tape = w.tape
  output : w'.output = w.output
  size : w.heap.size ≤ w'.heap.size
  block : ∀ i, i < w.heap.size → i < lo ∨ hi ≤ i → w'.heap[i]? = w.heap[i]?

theorem Span.of_grown {w w' : World} {lo hi g : Nat} (h : w.grownBy w' (some g)) (h1 : lo ≤ g) (h2 : g < hi) : Span lo hi w w' :=
  ⟨h.os, h.tape, h.output, h.size, fun i hi' hd => h.block i hi' (by intro e; simp only [Option.some.injEq] at e; omega)⟩

theorem Span.of_below {w w' : World} (lo hi : Nat) (h : Below w.heap.size w w') : Span lo hi w w' :=
  ⟨h.os, h.tape, h.output, h.size, fun i hi' _ => h.block i hi'⟩

theorem Span.trans {lo hi : Nat} {a b c : World} (h : Span lo hi a b) (k : Span lo hi b c) : Span lo hi a c :=
  ⟨k.os.trans h.os, k.tape.trans h.tape, k.output.trans h.output, Nat.le_trans h.size k.size, fun i hi' hd => (k.block i (Nat.lt_of_lt_of_le hi' h.size) hd).trans (h.block i hi' hd)⟩

theorem Span.wide {lo hi lo' hi' : Nat} {a b : World} (h : Span lo hi a b) (h1 : lo' ≤ lo) (h2 : hi ≤ hi') : Span lo' hi' a b :=
  ⟨h.os, h.tape, h.output, h.size, fun i hi' hd => h.block i hi' (by omega)⟩

theorem Span.below {lo hi n : Nat} {a b : World} (h : Span lo hi a b) (h1 : n ≤ lo) (h2 : n ≤ a.heap.size) : Below n a b :=
  ⟨h.os, h.tape, h.output, h.size, fun i hi' => h.block i (by omega) (.inl (by omega))⟩

theorem Span.set (w : World) (B k : Nat) (v : Value) : Span B (B + 1) w (w.setCell ⟨B, k, none⟩ v) :=
  ⟨rfl, rfl, rfl, by simp, fun i _ hd => Below.heap_setCell _ _ _ _ (by show i ≠ B; omega)⟩

/-- A box of cells. -/
def BoxN (W : World) (B : Nat) (t : TypeId) (cs : Array Value) : Prop := W.heap[B]? = some (.cells cs t (0, 0))

theorem BoxN.lt {W : World} {B : Nat} {t : TypeId} {cs : Array Value} (h : BoxN W B t cs) : B < W.heap.size := (Array.getElem?_eq_some_iff.1 h).1
theorem BoxN.cell {W : World} {B : Nat} {t : TypeId} {cs : Array Value} (h : BoxN W B t cs) (i : Nat) (v : Value) (hv : cs[i]? = some v) : W.cell? ⟨B, i, none⟩ = some v := by
  simp [World.cell?, show W.heap[B]? = _ from h, hv]
theorem BoxN.frozen {W : World} {B : Nat} {t : TypeId} {cs : Array Value} (h : BoxN W B t cs) (i : Nat) : W.frozen? ⟨B, i, none⟩ = false := by
  simp [World.frozen?, show W.heap[B]? = _ from h]
theorem BoxN.new (W : World) (t : TypeId) (cs : Array Value) : BoxN (W.alloc (.cells cs t)) W.heap.size t cs := World.alloc_heap_new W _
theorem BoxN.below {w w1 : World} {B : Nat} {t : TypeId} {cs : Array Value} (h : BoxN w B t cs) (hb : Below w.heap.size w w1) : BoxN w1 B t cs := (hb.block B h.lt).trans h
theorem BoxN.span {w w1 : World} {lo hi B : Nat} {t : TypeId} {cs : Array Value} (h : BoxN w B t cs) (hs : Span lo hi w w1) (hd : B < lo ∨ hi ≤ B) : BoxN w1 B t cs := (hs.block B h.lt hd).trans h
theorem BoxN.set {W : World} {B : Nat} {t : TypeId} {cs : Array Value} (h : BoxN W B t cs) (i : Nat) (v : Value) : BoxN (W.setCell ⟨B, i, none⟩ v) B t (cs.setIfInBounds i v) := heap_setCell_same W B i cs t v h
theorem BoxN.drew {W : World} {B : Nat} {t : TypeId} {cs : Array Value} (h : BoxN W B t cs) : BoxN W.drew B t cs := h
theorem boxN_of {W : World} {B : Nat} {t : TypeId} {v : Value} (h : Boxed W B t v) : BoxN W B t #[v] := h

/-- A row of bytes of its own, in the blocks from lo up to hi. -/
def SegB (w : World) (lo hi : Nat) (v : Value) (L : List Nat) : Prop := OwnB w lo v L ∧ ∀ k, v.ownBlock = some k → k < hi

theorem SegB.of {w : World} {lo : Nat} {v : Value} {L : List Nat} (h : OwnB w lo v L) : SegB w lo w.heap.size v L := ⟨h, fun k ek => ((World.ownsRow.lt h.2) k ek).2⟩
theorem SegB.below {w w' : World} {lo hi : Nat} {v : Value} {L : List Nat} (h : SegB w lo hi v L) (hb : Below w.heap.size w w') : SegB w' lo hi v L := ⟨h.1.below hb, h.2⟩
theorem SegB.drew {w : World} {lo hi : Nat} {v : Value} {L : List Nat} (h : SegB w lo hi v L) : SegB w.drew lo hi v L := h
theorem SegB.span {w w' : World} {lo hi lo' hi' : Nat} {v : Value} {L : List Nat} (h : SegB w lo hi v L) (hs : Span lo' hi' w w') (hd : hi ≤ lo' ∨ hi' ≤ lo) : SegB w' lo hi v L := by
  refine ⟨⟨h.1.1, ?_⟩, h.2⟩
  have ho := h.1.2
  rcases ho.2 with hn | ⟨g, cap, cur, hv, hb, hg, hrest⟩
  · exact ⟨ho.1, .inl hn⟩
  · have hgl : g < hi := h.2 g (by rw [hv]; rfl)
    refine ⟨ho.1, .inr ⟨g, cap, cur, hv, hb, ?_, hrest⟩⟩
    rw [hs.block g (Array.getElem?_eq_some_iff.1 hg).1 (by omega)]
    exact hg

theorem SegB.len {w : World} {lo hi : Nat} {v : Value} {L : List Nat} (h : SegB w lo hi v L) : ∃ a cap, v = .slice a L.length cap ∧ L.length ≤ cap := by
  rcases h.1.2.2 with ⟨rfl, h0⟩ | ⟨g, cap, cur, rfl, hb, hg, h1, _⟩
  · exact ⟨none, 0, by rw [h0], by omega⟩
  · exact ⟨_, _, rfl, h1⟩

theorem SegB.row {w : World} {lo hi : Nat} {a : Option Addr} {n cap : Nat} {L : List Nat} (h : SegB w lo hi (.slice a n cap) L) : RowB w a L := h.1.row.2

end Go.Proofs.YtblchdmemhhcbaaGreat
