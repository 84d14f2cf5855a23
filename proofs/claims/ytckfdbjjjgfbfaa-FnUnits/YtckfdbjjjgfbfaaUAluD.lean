/-
  Contracts over the program: chapter 2: differences of both programs.
-/
import Derived.Test.YtckfdbjjjgfbfaaUAluB
import Derived.Test.YtckfdbjjjgfbfaaUAluA
import Derived.Deep.RegionWith
namespace Go.Proofs.Ytckfdbjjjgfbfaa
set_option linter.unusedVariables false
set_option linter.unusedSimpArgs false
open Go.RowKit

set_option maxRecDepth 100000 in
theorem specSbc_plain (a b : Int) (n v i z c : Bool) (w : World) (h0 : 0 ≤ a) (h1 : a ≤ 255) (h2 : 0 ≤ b) (h3 : b ≤ 255) :
    Calls Try.prog 100 #[.int .u8 a, .int .u8 b, .agg #[.bool n, .bool v, .bool false, .bool i, .bool z, .bool c]] w fun e w' => e = .returned (.tuple #[.int .u8 (plR a (255 - b) c), .agg #[.bool (bit7 (plR a (255 - b) c)), .bool (plV a (255 - b) c), .bool false, .bool i, .bool (isZ (plR a (255 - b) c)), .bool (plC a (255 - b) c)]]) ∧ Below w.heap.size w w' := by
  have q0 : 0 ≤ 255 - b := by omega
  have q1 : 255 - b ≤ 255 := by omega
  go_enter Try.func100, Try.ntmps100
  go_wp2_with fail
  refine (l02Plain_any _ _ _ _ _ _ _ _ _ h0 h1 q0 q1).mono ?_
  rintro e w1 ⟨rfl, hb⟩
  obtain ⟨hc, hf⟩ := bcell hb
  obtain ⟨c0, c1, c2, c3, c4, c5, f0, f1, f2, f3, f4, f5⟩ := box6 hb
  have hz : w.heap.size + 1 < w1.heap.size := by have := hb.size; simp at this; omega
  have hz0 : w.heap.size < w1.heap.size := by omega
  have hbw : Below w.heap.size w w1 := (((Below.refl _ _).alloc (Nat.le_refl _) _).alloc (by simp) _).trans (hb.mono (by simp; omega))
  go_wp2
  go_region
  all_goals
    go_wp2
    refine bodyPost_ret (v := (.tuple #[.int .u8 (plR a (255 - b) c), .agg #[.bool (bit7 (plR a (255 - b) c)), .bool (plV a (255 - b) c), .bool false, .bool i, .bool (isZ (plR a (255 - b) c)), .bool (plC a (255 - b) c)]])) (by simp [results, Try.results100, go_sem, hc, hz, hz0]) rfl ⟨rfl, ?_⟩
    repeat (any_goals (first | (with_reducible exact hbw) | (with_reducible refine Below.drew ?_) | (with_reducible refine Below.setCell ?_ ?_ _) | (with_reducible refine Below.alloc ?_ ?_ _)))
    all_goals (first | (simp; done) | (simp; omega))

set_option maxRecDepth 100000 in
set_option maxHeartbeats 800000 in
theorem specSbc_dec (a b : Int) (n v i z c : Bool) (w : World) (h0 : 0 ≤ a) (h1 : a ≤ 255) (h2 : 0 ≤ b) (h3 : b ≤ 255) :
    Calls Try.prog 100 #[.int .u8 a, .int .u8 b, .agg #[.bool n, .bool v, .bool true, .bool i, .bool z, .bool c]] w fun e w' => e = .returned (.tuple #[.int .u8 (sbT a b c % 256), .agg #[.bool (bit7 (plR a (255 - b) c)), .bool (plV a (255 - b) c), .bool true, .bool i, .bool (isZ (plR a (255 - b) c)), .bool (plC a (255 - b) c)]]) ∧ Below w.heap.size w w' := by
  have q0 : 0 ≤ 255 - b := by omega
  have q1 : 255 - b ≤ 255 := by omega
  obtain ⟨ci, hci⟩ : ∃ x, bI c 1 = x := ⟨_, rfl⟩
  obtain ⟨hc0, hc1⟩ : 0 ≤ ci ∧ ci ≤ 1 := by rw [← hci]; exact bI_bd c 1 (by decide)
  have HCI := Lib.hid hci
  clear hci
  have e1 := and15_u8 a h0 h1
  have e2 := and15_u8 b h2 h3
  have e3 := and240_u8 a h0 h1
  have e4 := and240_u8 b h2 h3
  have e5 := and15_i64 (a % 16 - b % 16 - 1 + ci - 6)
  have HS := Lib.hid (show sbS a b c = a % 16 - b % 16 - 1 + ci by unfold sbS; rw [← HCI.out])
  by_cases hl : a % 16 - b % 16 - 1 + ci < 0
  · have HL := Lib.hid (show sbL a b c = ((a % 16 - b % 16 - 1 + ci - 6) % 16 - 16) by unfold sbL; rw [HS.out, if_pos hl])
    have HH := Lib.hid (show sbH a b c = a - a % 16 - (b - b % 16) + ((a % 16 - b % 16 - 1 + ci - 6) % 16 - 16) by unfold sbH; rw [HL.out])
    by_cases hh : a - a % 16 - (b - b % 16) + ((a % 16 - b % 16 - 1 + ci - 6) % 16 - 16) < 0
    · have HT := Lib.hid (show sbT a b c = a - a % 16 - (b - b % 16) + ((a % 16 - b % 16 - 1 + ci - 6) % 16 - 16) - 96 by unfold sbT; rw [HH.out, if_pos hh])
      have e6 := and255_i64 (a - a % 16 - (b - b % 16) + ((a % 16 - b % 16 - 1 + ci - 6) % 16 - 16) - 96)
      go_enter Try.func100, Try.ntmps100
      go_wp2_with fail
      refine (l02Plain_any _ _ _ _ _ _ _ _ _ h0 h1 q0 q1).mono ?_
      rintro e w1 ⟨rfl, hb⟩
      obtain ⟨hc, hf⟩ := bcell hb
      obtain ⟨c0, c1, c2, c3, c4, c5, f0, f1, f2, f3, f4, f5⟩ := box6 hb
      have hz : w.heap.size + 1 < w1.heap.size := by have := hb.size; simp at this; omega
      have hz0 : w.heap.size < w1.heap.size := by omega
      have hbw : Below w.heap.size w w1 := (((Below.refl _ _).alloc (Nat.le_refl _) _).alloc (by simp) _).trans (hb.mono (by simp; omega))
      go_wp2_with fail
      refine (l02Bit_any _ _ _).mono ?_
      rintro e w' ⟨rfl, rfl⟩
      rw [HCI.out]
      go_wp2
      go_region
      all_goals
        go_wp2
        refine bodyPost_ret (v := (.tuple #[.int .u8 (sbT a b c % 256), .agg #[.bool (bit7 (plR a (255 - b) c)), .bool (plV a (255 - b) c), .bool true, .bool i, .bool (isZ (plR a (255 - b) c)), .bool (plC a (255 - b) c)]])) (by simp [results, Try.results100, go_sem, hc, hz, hz0, HT.out]) rfl ⟨rfl, ?_⟩
        repeat (any_goals (first | (with_reducible exact hbw) | (with_reducible refine Below.drew ?_) | (with_reducible refine Below.setCell ?_ ?_ _) | (with_reducible refine Below.alloc ?_ ?_ _)))
        all_goals (first | (simp; done) | (simp; omega))
    · have HT := Lib.hid (show sbT a b c = a - a % 16 - (b - b % 16) + ((a % 16 - b % 16 - 1 + ci - 6) % 16 - 16) by unfold sbT; rw [HH.out, if_neg hh])
      have hh2 : 0 ≤ a - a % 16 - (b - b % 16) + ((a % 16 - b % 16 - 1 + ci - 6) % 16 - 16) := by omega
      clear hh
      have HM := Lib.hid (show (a - a % 16 - (b - b % 16) + ((a % 16 - b % 16 - 1 + ci - 6) % 16 - 16)) % 256 = a - a % 16 - (b - b % 16) + ((a % 16 - b % 16 - 1 + ci - 6) % 16 - 16) by omega)
      have e6 := and255_i64 (a - a % 16 - (b - b % 16) + ((a % 16 - b % 16 - 1 + ci - 6) % 16 - 16))
      go_enter Try.func100, Try.ntmps100
      go_wp2_with fail
      refine (l02Plain_any _ _ _ _ _ _ _ _ _ h0 h1 q0 q1).mono ?_
      rintro e w1 ⟨rfl, hb⟩
      obtain ⟨hc, hf⟩ := bcell hb
      obtain ⟨c0, c1, c2, c3, c4, c5, f0, f1, f2, f3, f4, f5⟩ := box6 hb
      have hz : w.heap.size + 1 < w1.heap.size := by have := hb.size; simp at this; omega
      have hz0 : w.heap.size < w1.heap.size := by omega
      have hbw : Below w.heap.size w w1 := (((Below.refl _ _).alloc (Nat.le_refl _) _).alloc (by simp) _).trans (hb.mono (by simp; omega))
      go_wp2_with fail
      refine (l02Bit_any _ _ _).mono ?_
      rintro e w' ⟨rfl, rfl⟩
      rw [HCI.out]
      go_wp2
      go_region
      all_goals
        go_wp2
        refine bodyPost_ret (v := (.tuple #[.int .u8 (sbT a b c % 256), .agg #[.bool (bit7 (plR a (255 - b) c)), .bool (plV a (255 - b) c), .bool true, .bool i, .bool (isZ (plR a (255 - b) c)), .bool (plC a (255 - b) c)]])) (by simp [results, Try.results100, go_sem, hc, hz, hz0, HT.out, HM.out]) rfl ⟨rfl, ?_⟩
        repeat (any_goals (first | (with_reducible exact hbw) | (with_reducible refine Below.drew ?_) | (with_reducible refine Below.setCell ?_ ?_ _) | (with_reducible refine Below.alloc ?_ ?_ _)))
        all_goals (first | (simp; done) | (simp; omega))
  · have HL := Lib.hid (show sbL a b c = (a % 16 - b % 16 - 1 + ci) by unfold sbL; rw [HS.out, if_neg hl])
    have HH := Lib.hid (show sbH a b c = a - a % 16 - (b - b % 16) + (a % 16 - b % 16 - 1 + ci) by unfold sbH; rw [HL.out])
    have hl2 : 0 ≤ a % 16 - b % 16 - 1 + ci := by omega
    clear hl
    by_cases hh : a - a % 16 - (b - b % 16) + (a % 16 - b % 16 - 1 + ci) < 0
    · have HT := Lib.hid (show sbT a b c = a - a % 16 - (b - b % 16) + (a % 16 - b % 16 - 1 + ci) - 96 by unfold sbT; rw [HH.out, if_pos hh])
      have e6 := and255_i64 (a - a % 16 - (b - b % 16) + (a % 16 - b % 16 - 1 + ci) - 96)
      go_enter Try.func100, Try.ntmps100
      go_wp2_with fail
      refine (l02Plain_any _ _ _ _ _ _ _ _ _ h0 h1 q0 q1).mono ?_
      rintro e w1 ⟨rfl, hb⟩
      obtain ⟨hc, hf⟩ := bcell hb
      obtain ⟨c0, c1, c2, c3, c4, c5, f0, f1, f2, f3, f4, f5⟩ := box6 hb
      have hz : w.heap.size + 1 < w1.heap.size := by have := hb.size; simp at this; omega
      have hz0 : w.heap.size < w1.heap.size := by omega
      have hbw : Below w.heap.size w w1 := (((Below.refl _ _).alloc (Nat.le_refl _) _).alloc (by simp) _).trans (hb.mono (by simp; omega))
      go_wp2_with fail
      refine (l02Bit_any _ _ _).mono ?_
      rintro e w' ⟨rfl, rfl⟩
      rw [HCI.out]
      go_wp2
      go_region
      all_goals
        go_wp2
        refine bodyPost_ret (v := (.tuple #[.int .u8 (sbT a b c % 256), .agg #[.bool (bit7 (plR a (255 - b) c)), .bool (plV a (255 - b) c), .bool true, .bool i, .bool (isZ (plR a (255 - b) c)), .bool (plC a (255 - b) c)]])) (by simp [results, Try.results100, go_sem, hc, hz, hz0, HT.out]) rfl ⟨rfl, ?_⟩
        repeat (any_goals (first | (with_reducible exact hbw) | (with_reducible refine Below.drew ?_) | (with_reducible refine Below.setCell ?_ ?_ _) | (with_reducible refine Below.alloc ?_ ?_ _)))
        all_goals (first | (simp; done) | (simp; omega))
    · have HT := Lib.hid (show sbT a b c = a - a % 16 - (b - b % 16) + (a % 16 - b % 16 - 1 + ci) by unfold sbT; rw [HH.out, if_neg hh])
      have hh2 : 0 ≤ a - a % 16 - (b - b % 16) + (a % 16 - b % 16 - 1 + ci) := by omega
      clear hh
      have HM := Lib.hid (show (a - a % 16 - (b - b % 16) + (a % 16 - b % 16 - 1 + ci)) % 256 = a - a % 16 - (b - b % 16) + (a % 16 - b % 16 - 1 + ci) by omega)
      have e6 := and255_i64 (a - a % 16 - (b - b % 16) + (a % 16 - b % 16 - 1 + ci))
      go_enter Try.func100, Try.ntmps100
      go_wp2_with fail
      refine (l02Plain_any _ _ _ _ _ _ _ _ _ h0 h1 q0 q1).mono ?_
      rintro e w1 ⟨rfl, hb⟩
      obtain ⟨hc, hf⟩ := bcell hb
      obtain ⟨c0, c1, c2, c3, c4, c5, f0, f1, f2, f3, f4, f5⟩ := box6 hb
      have hz : w.heap.size + 1 < w1.heap.size := by have := hb.size; simp at this; omega
      have hz0 : w.heap.size < w1.heap.size := by omega
      have hbw : Below w.heap.size w w1 := (((Below.refl _ _).alloc (Nat.le_refl _) _).alloc (by simp) _).trans (hb.mono (by simp; omega))
      go_wp2_with fail
      refine (l02Bit_any _ _ _).mono ?_
      rintro e w' ⟨rfl, rfl⟩
      rw [HCI.out]
      go_wp2
      go_region
      all_goals
        go_wp2
        refine bodyPost_ret (v := (.tuple #[.int .u8 (sbT a b c % 256), .agg #[.bool (bit7 (plR a (255 - b) c)), .bool (plV a (255 - b) c), .bool true, .bool i, .bool (isZ (plR a (255 - b) c)), .bool (plC a (255 - b) c)]])) (by simp [results, Try.results100, go_sem, hc, hz, hz0, HT.out, HM.out]) rfl ⟨rfl, ?_⟩
        repeat (any_goals (first | (with_reducible exact hbw) | (with_reducible refine Below.drew ?_) | (with_reducible refine Below.setCell ?_ ?_ _) | (with_reducible refine Below.alloc ?_ ?_ _)))
        all_goals (first | (simp; done) | (simp; omega))

theorem specSbc_any (a b : Int) (n v d i z c : Bool) (w : World) (h0 : 0 ≤ a) (h1 : a ≤ 255) (h2 : 0 ≤ b) (h3 : b ≤ 255) :
    Calls Try.prog 100 #[.int .u8 a, .int .u8 b, .agg #[.bool n, .bool v, .bool d, .bool i, .bool z, .bool c]] w fun e w' => e = .returned (.tuple #[.int .u8 (sbR a b d c), .agg #[.bool (bit7 (plR a (255 - b) c)), .bool (plV a (255 - b) c), .bool d, .bool i, .bool (isZ (plR a (255 - b) c)), .bool (plC a (255 - b) c)]]) ∧ Below w.heap.size w w' := by
  cases d
  · exact specSbc_plain a b n v i z c w h0 h1 h2 h3
  · exact specSbc_dec a b n v i z c w h0 h1 h2 h3

end Go.Proofs.Ytckfdbjjjgfbfaa
