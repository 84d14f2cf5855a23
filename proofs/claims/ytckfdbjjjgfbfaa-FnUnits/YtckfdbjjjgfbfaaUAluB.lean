/-
  Contracts over the program: chapter 2: sums and differences, with D and without, of both programs.
-/
import Derived.Test.YtckfdbjjjgfbfaaUAluA
namespace Go.Proofs.Ytckfdbjjjgfbfaa
set_option linter.unusedVariables false
set_option linter.unusedSimpArgs false
open Go.RowKit

set_option maxRecDepth 100000 in
theorem l02Plain_any (a b : Int) (n v d i z c : Bool) (w : World) (h0 : 0 ≤ a) (h1 : a ≤ 255) (h2 : 0 ≤ b) (h3 : b ≤ 255) :
    Calls Try.prog 104 #[.int .u8 a, .int .u8 b, .agg #[.bool n, .bool v, .bool d, .bool i, .bool z, .bool c]] w fun e w' => e = .returned (.tuple #[.int .u8 (plR a b c), .agg #[.bool (bit7 (plR a b c)), .bool (plV a b c), .bool d, .bool i, .bool (isZ (plR a b c)), .bool (plC a b c)]]) ∧ Below w.heap.size w w' := by
  obtain ⟨ci, hci⟩ : ∃ x, bI c 1 = x := ⟨_, rfl⟩
  obtain ⟨hc0, hc1⟩ : 0 ≤ ci ∧ ci ≤ 1 := by rw [← hci]; exact bI_bd c 1 (by decide)
  have HCI := Lib.hid hci
  clear hci
  have e5 := and255_i64 (a + b + ci)
  have q0 : 0 ≤ (a + b + ci) % 256 := by omega
  have q1 : (a + b + ci) % 256 ≤ 255 := by omega
  go_enter Try.func104, Try.ntmps104
  go_wp2_with fail
  refine (l02Bit_any _ _ _).mono ?_
  rintro e w' ⟨rfl, rfl⟩
  rw [HCI.out]
  go_wp2_with fail
  refine (l02Over_any _ _ _ _ h0 h1 h2 h3 (by omega) (by omega)).mono ?_
  rintro e w' ⟨rfl, rfl⟩
  go_wp2_with fail
  refine (specNZ_any _ _ _ _ _ _ _ _ (by omega) (by omega)).mono ?_
  rintro e w1 ⟨rfl, hb⟩
  obtain ⟨hc, hf⟩ := bcell hb
  have hz : w.heap.size + 1 < w1.heap.size := by have := hb.size; simp at this; omega
  go_wp2
  refine bodyPost_ret (v := (.tuple #[.int .u8 (plR a b c), .agg #[.bool (bit7 (plR a b c)), .bool (plV a b c), .bool d, .bool i, .bool (isZ (plR a b c)), .bool (plC a b c)]])) (by simp [results, Try.results104, go_sem, plR, plV, plC, plS, HCI.out, hc]) rfl ⟨rfl, ?_⟩
  exact (((((((((Below.refl _ _).alloc (Nat.le_refl _) _).alloc (by simp) _).trans (hb.mono (by simp; omega))).setCell (by simp) _).setCell (by simp) _).setCell (by simp) _).setCell (by simp) _).setCell (by simp) _).setCell (by simp) _

set_option maxRecDepth 100000 in
theorem specAdc_plain (a b : Int) (n v i z c : Bool) (w : World) (h0 : 0 ≤ a) (h1 : a ≤ 255) (h2 : 0 ≤ b) (h3 : b ≤ 255) :
    Calls Try.prog 99 #[.int .u8 a, .int .u8 b, .agg #[.bool n, .bool v, .bool false, .bool i, .bool z, .bool c]] w fun e w' => e = .returned (.tuple #[.int .u8 (plR a b c), .agg #[.bool (bit7 (plR a b c)), .bool (plV a b c), .bool false, .bool i, .bool (isZ (plR a b c)), .bool (plC a b c)]]) ∧ Below w.heap.size w w' := by
  go_enter Try.func99, Try.ntmps99
  go_wp2_with fail
  refine (l02Plain_any _ _ _ _ _ _ _ _ _ h0 h1 h2 h3).mono ?_
  rintro e w1 ⟨rfl, hb⟩
  obtain ⟨hc, hf⟩ := bcell hb
  have hz : w.heap.size + 1 < w1.heap.size := by have := hb.size; simp at this; omega
  have hz0 : w.heap.size < w1.heap.size := by omega
  have hbw : Below w.heap.size w w1 := (((Below.refl _ _).alloc (Nat.le_refl _) _).alloc (by simp) _).trans (hb.mono (by simp; omega))
  go_wp2
  go_region
  all_goals
    go_wp2
    refine bodyPost_ret (v := (.tuple #[.int .u8 (plR a b c), .agg #[.bool (bit7 (plR a b c)), .bool (plV a b c), .bool false, .bool i, .bool (isZ (plR a b c)), .bool (plC a b c)]])) (by simp [results, Try.results99, go_sem, hc, hz, hz0]) rfl ⟨rfl, ?_⟩
    repeat (any_goals (first | (with_reducible exact hbw) | (with_reducible refine Below.drew ?_) | (with_reducible refine Below.setCell ?_ ?_ _) | (with_reducible refine Below.alloc ?_ ?_ _)))
    all_goals (first | (simp; done) | (simp; omega))

set_option maxRecDepth 100000 in
set_option maxHeartbeats 800000 in
theorem specAdc_dec (a b : Int) (n v i z c : Bool) (w : World) (h0 : 0 ≤ a) (h1 : a ≤ 255) (h2 : 0 ≤ b) (h3 : b ≤ 255) :
    Calls Try.prog 99 #[.int .u8 a, .int .u8 b, .agg #[.bool n, .bool v, .bool true, .bool i, .bool z, .bool c]] w fun e w' => e = .returned (.tuple #[.int .u8 (dcT a b c % 256), .agg #[.bool (bit7 (dcH a b c % 256)), .bool (over a b (dcH a b c % 256)), .bool true, .bool i, .bool (isZ (plR a b c)), .bool (decide (255 < dcT a b c))]]) ∧ Below w.heap.size w w' := by
  obtain ⟨ci, hci⟩ : ∃ x, bI c 1 = x := ⟨_, rfl⟩
  obtain ⟨hc0, hc1⟩ : 0 ≤ ci ∧ ci ≤ 1 := by rw [← hci]; exact bI_bd c 1 (by decide)
  have HCI := Lib.hid hci
  clear hci
  have e1 := and15_u8 a h0 h1
  have e2 := and15_u8 b h2 h3
  have e3 := and240_u8 a h0 h1
  have e4 := and240_u8 b h2 h3
  have e5 := and15_i64 (a % 16 + b % 16 + ci + 6)
  by_cases hl : 10 ≤ a % 16 + b % 16 + ci
  · have HL := Lib.hid (show dcL a b c = ((a % 16 + b % 16 + ci + 6) % 16 + 16) by unfold dcL dcS; rw [HCI.out, if_pos hl])
    have HH := Lib.hid (show dcH a b c = a - a % 16 + (b - b % 16) + ((a % 16 + b % 16 + ci + 6) % 16 + 16) by unfold dcH; rw [HL.out])
    by_cases hh : 160 ≤ a - a % 16 + (b - b % 16) + ((a % 16 + b % 16 + ci + 6) % 16 + 16)
    · have HT := Lib.hid (show dcT a b c = a - a % 16 + (b - b % 16) + ((a % 16 + b % 16 + ci + 6) % 16 + 16) + 96 by unfold dcT; rw [HH.out, if_pos hh])
      have e6 := and255_i64 (a - a % 16 + (b - b % 16) + ((a % 16 + b % 16 + ci + 6) % 16 + 16) + 96)
      go_enter Try.func99, Try.ntmps99
      go_wp2_with fail
      refine (l02Plain_any _ _ _ _ _ _ _ _ _ h0 h1 h2 h3).mono ?_
      rintro e w1 ⟨rfl, hb⟩
      obtain ⟨hc, hf⟩ := bcell hb
      have hz : w.heap.size + 1 < w1.heap.size := by have := hb.size; simp at this; omega
      have hz0 : w.heap.size < w1.heap.size := by omega
      have hbw : Below w.heap.size w w1 := (((Below.refl _ _).alloc (Nat.le_refl _) _).alloc (by simp) _).trans (hb.mono (by simp; omega))
      go_wp2_with fail
      refine (l02Bit_any _ _ _).mono ?_
      rintro e w' ⟨rfl, rfl⟩
      rw [HCI.out]
      go_wp2_with fail
      refine (l02Over_any _ _ _ _ h0 h1 h2 h3 (by omega) (by omega)).mono ?_
      rintro e w' ⟨rfl, rfl⟩
      go_wp2
      go_region
      all_goals
        go_wp2
        refine bodyPost_ret (v := (.tuple #[.int .u8 (dcT a b c % 256), .agg #[.bool (bit7 (dcH a b c % 256)), .bool (over a b (dcH a b c % 256)), .bool true, .bool i, .bool (isZ (plR a b c)), .bool (decide (255 < dcT a b c))]])) (by simp [results, Try.results99, go_sem, hc, hz, hz0, HT.out, HH.out, bit7_h]) rfl ⟨rfl, ?_⟩
        repeat (any_goals (first | (with_reducible exact hbw) | (with_reducible refine Below.drew ?_) | (with_reducible refine Below.setCell ?_ ?_ _) | (with_reducible refine Below.alloc ?_ ?_ _)))
        all_goals (first | (simp; done) | (simp; omega))
    · have HT := Lib.hid (show dcT a b c = a - a % 16 + (b - b % 16) + ((a % 16 + b % 16 + ci + 6) % 16 + 16) by unfold dcT; rw [HH.out, if_neg hh])
      have hh2 : a - a % 16 + (b - b % 16) + ((a % 16 + b % 16 + ci + 6) % 16 + 16) < 160 := by omega
      clear hh
      have e6 := and255_i64 (a - a % 16 + (b - b % 16) + ((a % 16 + b % 16 + ci + 6) % 16 + 16))
      go_enter Try.func99, Try.ntmps99
      go_wp2_with fail
      refine (l02Plain_any _ _ _ _ _ _ _ _ _ h0 h1 h2 h3).mono ?_
      rintro e w1 ⟨rfl, hb⟩
      obtain ⟨hc, hf⟩ := bcell hb
      have hz : w.heap.size + 1 < w1.heap.size := by have := hb.size; simp at this; omega
      have hz0 : w.heap.size < w1.heap.size := by omega
      have hbw : Below w.heap.size w w1 := (((Below.refl _ _).alloc (Nat.le_refl _) _).alloc (by simp) _).trans (hb.mono (by simp; omega))
      go_wp2_with fail
      refine (l02Bit_any _ _ _).mono ?_
      rintro e w' ⟨rfl, rfl⟩
      rw [HCI.out]
      go_wp2_with fail
      refine (l02Over_any _ _ _ _ h0 h1 h2 h3 (by omega) (by omega)).mono ?_
      rintro e w' ⟨rfl, rfl⟩
      go_wp2
      go_region
      all_goals
        go_wp2
        refine bodyPost_ret (v := (.tuple #[.int .u8 (dcT a b c % 256), .agg #[.bool (bit7 (dcH a b c % 256)), .bool (over a b (dcH a b c % 256)), .bool true, .bool i, .bool (isZ (plR a b c)), .bool (decide (255 < dcT a b c))]])) (by simp [results, Try.results99, go_sem, hc, hz, hz0, HT.out, HH.out, bit7_h]) rfl ⟨rfl, ?_⟩
        repeat (any_goals (first | (with_reducible exact hbw) | (with_reducible refine Below.drew ?_) | (with_reducible refine Below.setCell ?_ ?_ _) | (with_reducible refine Below.alloc ?_ ?_ _)))
        all_goals (first | (simp; done) | (simp; omega))
  · have HL := Lib.hid (show dcL a b c = (a % 16 + b % 16 + ci) by unfold dcL dcS; rw [HCI.out, if_neg hl])
    have HH := Lib.hid (show dcH a b c = a - a % 16 + (b - b % 16) + (a % 16 + b % 16 + ci) by unfold dcH; rw [HL.out])
    have hl2 : a % 16 + b % 16 + ci < 10 := by omega
    clear hl
    by_cases hh : 160 ≤ a - a % 16 + (b - b % 16) + (a % 16 + b % 16 + ci)
    · have HT := Lib.hid (show dcT a b c = a - a % 16 + (b - b % 16) + (a % 16 + b % 16 + ci) + 96 by unfold dcT; rw [HH.out, if_pos hh])
      have e6 := and255_i64 (a - a % 16 + (b - b % 16) + (a % 16 + b % 16 + ci) + 96)
      go_enter Try.func99, Try.ntmps99
      go_wp2_with fail
      refine (l02Plain_any _ _ _ _ _ _ _ _ _ h0 h1 h2 h3).mono ?_
      rintro e w1 ⟨rfl, hb⟩
      obtain ⟨hc, hf⟩ := bcell hb
      have hz : w.heap.size + 1 < w1.heap.size := by have := hb.size; simp at this; omega
      have hz0 : w.heap.size < w1.heap.size := by omega
      have hbw : Below w.heap.size w w1 := (((Below.refl _ _).alloc (Nat.le_refl _) _).alloc (by simp) _).trans (hb.mono (by simp; omega))
      go_wp2_with fail
      refine (l02Bit_any _ _ _).mono ?_
      rintro e w' ⟨rfl, rfl⟩
      rw [HCI.out]
      go_wp2_with fail
      refine (l02Over_any _ _ _ _ h0 h1 h2 h3 (by omega) (by omega)).mono ?_
      rintro e w' ⟨rfl, rfl⟩
      go_wp2
      go_region
      all_goals
        go_wp2
        refine bodyPost_ret (v := (.tuple #[.int .u8 (dcT a b c % 256), .agg #[.bool (bit7 (dcH a b c % 256)), .bool (over a b (dcH a b c % 256)), .bool true, .bool i, .bool (isZ (plR a b c)), .bool (decide (255 < dcT a b c))]])) (by simp [results, Try.results99, go_sem, hc, hz, hz0, HT.out, HH.out, bit7_h]) rfl ⟨rfl, ?_⟩
        repeat (any_goals (first | (with_reducible exact hbw) | (with_reducible refine Below.drew ?_) | (with_reducible refine Below.setCell ?_ ?_ _) | (with_reducible refine Below.alloc ?_ ?_ _)))
        all_goals (first | (simp; done) | (simp; omega))
    · have HT := Lib.hid (show dcT a b c = a - a % 16 + (b - b % 16) + (a % 16 + b % 16 + ci) by unfold dcT; rw [HH.out, if_neg hh])
      have hh2 : a - a % 16 + (b - b % 16) + (a % 16 + b % 16 + ci) < 160 := by omega
      clear hh
      have e6 := and255_i64 (a - a % 16 + (b - b % 16) + (a % 16 + b % 16 + ci))
      go_enter Try.func99, Try.ntmps99
      go_wp2_with fail
      refine (l02Plain_any _ _ _ _ _ _ _ _ _ h0 h1 h2 h3).mono ?_
      rintro e w1 ⟨rfl, hb⟩
      obtain ⟨hc, hf⟩ := bcell hb
      have hz : w.heap.size + 1 < w1.heap.size := by have := hb.size; simp at this; omega
      have hz0 : w.heap.size < w1.heap.size := by omega
      have hbw : Below w.heap.size w w1 := (((Below.refl _ _).alloc (Nat.le_refl _) _).alloc (by simp) _).trans (hb.mono (by simp; omega))
      go_wp2_with fail
      refine (l02Bit_any _ _ _).mono ?_
      rintro e w' ⟨rfl, rfl⟩
      rw [HCI.out]
      go_wp2_with fail
      refine (l02Over_any _ _ _ _ h0 h1 h2 h3 (by omega) (by omega)).mono ?_
      rintro e w' ⟨rfl, rfl⟩
      go_wp2
      go_region
      all_goals
        go_wp2
        refine bodyPost_ret (v := (.tuple #[.int .u8 (dcT a b c % 256), .agg #[.bool (bit7 (dcH a b c % 256)), .bool (over a b (dcH a b c % 256)), .bool true, .bool i, .bool (isZ (plR a b c)), .bool (decide (255 < dcT a b c))]])) (by simp [results, Try.results99, go_sem, hc, hz, hz0, HT.out, HH.out, bit7_h]) rfl ⟨rfl, ?_⟩
        repeat (any_goals (first | (with_reducible exact hbw) | (with_reducible refine Below.drew ?_) | (with_reducible refine Below.setCell ?_ ?_ _) | (with_reducible refine Below.alloc ?_ ?_ _)))
        all_goals (first | (simp; done) | (simp; omega))

theorem specAdc_any (a b : Int) (n v d i z c : Bool) (w : World) (h0 : 0 ≤ a) (h1 : a ≤ 255) (h2 : 0 ≤ b) (h3 : b ≤ 255) :
    Calls Try.prog 99 #[.int .u8 a, .int .u8 b, .agg #[.bool n, .bool v, .bool d, .bool i, .bool z, .bool c]] w fun e w' => e = .returned (.tuple #[.int .u8 (adR a b d c), .agg #[.bool (adN a b d c), .bool (adV a b d c), .bool d, .bool i, .bool (adZ a b c), .bool (adC a b d c)]]) ∧ Below w.heap.size w w' := by
  cases d
  · exact specAdc_plain a b n v i z c w h0 h1 h2 h3
  · exact specAdc_dec a b n v i z c w h0 h1 h2 h3

end Go.Proofs.Ytckfdbjjjgfbfaa
