/-
  Contracts over the program: chapter 2: what is compared, moved, tested and packed, of both programs; and the exact laws' own toFlags and eqFlags.
-/
import Derived.Test.YtddfgplgjjkdcacAluA
namespace Go.Proofs.Ytddfgplgjjkdcac
open Go.RowKit

theorem pk_sum : ∀ n v brk d i z c : Bool, wrap64 (wrap64 (wrap64 (wrap64 (wrap64 (wrap64 (wrap64 (bI n 128 + bI v 64) + 32) + bI brk 16) + bI d 8) + bI i 4) + bI z 2) + bI c 1) % 256 = pkV n v brk d i z c := by
  decide +kernel

theorem tup_of {k : IntKind} {a b : Int} {p q : Bool} (h : a = b) (h' : p = q) : Ending.returned (.tuple #[.int k a, .bool p]) = .returned (.tuple #[.int k b, .bool q]) := by rw [h, h']

theorem moveBits_any (b : Int) (up inn : Bool) (w : World) (h0 : 0 ≤ b) (h1 : b ≤ 255) :
    Calls Try.prog 21 #[.int .u8 b, .bool up, .bool inn] w fun e w' => e = .returned (.tuple #[.int .u8 (mvR b up inn), .bool (mvC b up)]) ∧ w = w' := by
  have k1 := Lib.hid (or128_u8 b h0 h1)
  have k2 := Lib.hid (or1_u8 b h0 h1)
  have k3 := Lib.hid (hasB_128 b h0 h1)
  have k4 := Lib.hid (hasB_1 b h0 h1)
  unfold hasB at k3 k4
  cases up <;> cases inn
  all_goals
    go_enter Try.func21, Try.ntmps21
    go_wp2
    go_ret2
    refine ⟨tup_of ?_ ?_, rfl⟩
    · simp [mvR, bI, high_u8, k1.out, k2.out]
    · simp [mvC, high_u8, k3.out, k4.out]

set_option maxRecDepth 100000 in
theorem moveByte_any (b : Int) (up inn n v d i z c : Bool) (h0 : 0 ≤ b) (h1 : b ≤ 255) (w : World) :
    Calls Try.prog 18 #[.int .u8 b, .bool up, .bool inn, .agg #[.bool n, .bool v, .bool d, .bool i, .bool z, .bool c]] w fun e w' => e = .returned (.tuple #[.int .u8 (mvR b up inn), .agg #[.bool (bit7 (mvR b up inn)), .bool v, .bool d, .bool i, .bool (isZ (mvR b up inn)), .bool (mvC b up)]]) ∧ Below w.heap.size w w' := by
  obtain ⟨q0, q1⟩ := mvR_bd b up inn h0 h1
  go_enter Try.func18, Try.ntmps18
  go_wp2_with fail
  refine (moveBits_any _ _ _ _ h0 h1).mono ?_
  rintro e w' ⟨rfl, rfl⟩
  go_wp2_with fail
  refine (implNZ_any _ _ _ _ _ _ _ _ q0 q1).mono ?_
  rintro e w1 ⟨rfl, hb⟩
  obtain ⟨hc, hf⟩ := bcell hb
  have hz : w.heap.size + 1 < w1.heap.size := by have := hb.size; simp at this; omega
  have hz0 : w.heap.size < w1.heap.size := by omega
  have hbw : Below w.heap.size w w1 := (((Below.refl _ _).alloc (Nat.le_refl _) _).alloc (by simp) _).trans (hb.mono (by simp; omega))
  go_wp2
  refine bodyPost_ret (v := (.tuple #[.int .u8 (mvR b up inn), .agg #[.bool (bit7 (mvR b up inn)), .bool v, .bool d, .bool i, .bool (isZ (mvR b up inn)), .bool (mvC b up)]])) (by simp [results, Try.results18, go_sem, hc, hz, hz0]) rfl ⟨rfl, ?_⟩
  repeat (any_goals (first | (with_reducible exact hbw) | (with_reducible refine Below.drew ?_) | (with_reducible refine Below.setCell ?_ ?_ _) | (with_reducible refine Below.alloc ?_ ?_ _)))
  all_goals (first | (simp; done) | (simp; omega))

set_option maxRecDepth 100000 in
theorem implLsr_any (b : Int) (n v d i z c : Bool) (h0 : 0 ≤ b) (h1 : b ≤ 255) (w : World) :
    Calls Try.prog 9 #[.int .u8 b, .agg #[.bool n, .bool v, .bool d, .bool i, .bool z, .bool c]] w fun e w' => e = .returned (.tuple #[.int .u8 (mvR b false false), .agg #[.bool (bit7 (mvR b false false)), .bool v, .bool d, .bool i, .bool (isZ (mvR b false false)), .bool (mvC b false)]]) ∧ Below w.heap.size w w' := by
  go_enter Try.func9, Try.ntmps9
  go_wp2_with fail
  refine (moveByte_any _ _ _ _ _ _ _ _ _ h0 h1 _).mono ?_
  rintro e w1 ⟨rfl, hb⟩
  obtain ⟨hc, hf⟩ := bcell hb
  have hz : w.heap.size + 1 < w1.heap.size := by have := hb.size; simp at this; omega
  have hz0 : w.heap.size < w1.heap.size := by omega
  have hbw : Below w.heap.size w w1 := (((Below.refl _ _).alloc (Nat.le_refl _) _).alloc (by simp) _).trans (hb.mono (by simp; omega))
  go_wp2
  refine bodyPost_ret (v := (.tuple #[.int .u8 (mvR b false false), .agg #[.bool (bit7 (mvR b false false)), .bool v, .bool d, .bool i, .bool (isZ (mvR b false false)), .bool (mvC b false)]])) (by simp [results, Try.results9, go_sem, hc, hz, hz0]) rfl ⟨rfl, ?_⟩
  repeat (any_goals (first | (with_reducible exact hbw) | (with_reducible refine Below.drew ?_) | (with_reducible refine Below.setCell ?_ ?_ _) | (with_reducible refine Below.alloc ?_ ?_ _)))
  all_goals (first | (simp; done) | (simp; omega))

set_option maxRecDepth 100000 in
theorem implRol_any (b : Int) (n v d i z c : Bool) (h0 : 0 ≤ b) (h1 : b ≤ 255) (w : World) :
    Calls Try.prog 12 #[.int .u8 b, .agg #[.bool n, .bool v, .bool d, .bool i, .bool z, .bool c]] w fun e w' => e = .returned (.tuple #[.int .u8 (mvR b true c), .agg #[.bool (bit7 (mvR b true c)), .bool v, .bool d, .bool i, .bool (isZ (mvR b true c)), .bool (mvC b true)]]) ∧ Below w.heap.size w w' := by
  go_enter Try.func12, Try.ntmps12
  go_wp2_with fail
  refine (moveByte_any _ _ _ _ _ _ _ _ _ h0 h1 _).mono ?_
  rintro e w1 ⟨rfl, hb⟩
  obtain ⟨hc, hf⟩ := bcell hb
  have hz : w.heap.size + 1 < w1.heap.size := by have := hb.size; simp at this; omega
  have hz0 : w.heap.size < w1.heap.size := by omega
  have hbw : Below w.heap.size w w1 := (((Below.refl _ _).alloc (Nat.le_refl _) _).alloc (by simp) _).trans (hb.mono (by simp; omega))
  go_wp2
  refine bodyPost_ret (v := (.tuple #[.int .u8 (mvR b true c), .agg #[.bool (bit7 (mvR b true c)), .bool v, .bool d, .bool i, .bool (isZ (mvR b true c)), .bool (mvC b true)]])) (by simp [results, Try.results12, go_sem, hc, hz, hz0]) rfl ⟨rfl, ?_⟩
  repeat (any_goals (first | (with_reducible exact hbw) | (with_reducible refine Below.drew ?_) | (with_reducible refine Below.setCell ?_ ?_ _) | (with_reducible refine Below.alloc ?_ ?_ _)))
  all_goals (first | (simp; done) | (simp; omega))

set_option maxRecDepth 100000 in
theorem implRor_any (b : Int) (n v d i z c : Bool) (h0 : 0 ≤ b) (h1 : b ≤ 255) (w : World) :
    Calls Try.prog 14 #[.int .u8 b, .agg #[.bool n, .bool v, .bool d, .bool i, .bool z, .bool c]] w fun e w' => e = .returned (.tuple #[.int .u8 (mvR b false c), .agg #[.bool (bit7 (mvR b false c)), .bool v, .bool d, .bool i, .bool (isZ (mvR b false c)), .bool (mvC b false)]]) ∧ Below w.heap.size w w' := by
  go_enter Try.func14, Try.ntmps14
  go_wp2_with fail
  refine (moveByte_any _ _ _ _ _ _ _ _ _ h0 h1 _).mono ?_
  rintro e w1 ⟨rfl, hb⟩
  obtain ⟨hc, hf⟩ := bcell hb
  have hz : w.heap.size + 1 < w1.heap.size := by have := hb.size; simp at this; omega
  have hz0 : w.heap.size < w1.heap.size := by omega
  have hbw : Below w.heap.size w w1 := (((Below.refl _ _).alloc (Nat.le_refl _) _).alloc (by simp) _).trans (hb.mono (by simp; omega))
  go_wp2
  refine bodyPost_ret (v := (.tuple #[.int .u8 (mvR b false c), .agg #[.bool (bit7 (mvR b false c)), .bool v, .bool d, .bool i, .bool (isZ (mvR b false c)), .bool (mvC b false)]])) (by simp [results, Try.results14, go_sem, hc, hz, hz0]) rfl ⟨rfl, ?_⟩
  repeat (any_goals (first | (with_reducible exact hbw) | (with_reducible refine Below.drew ?_) | (with_reducible refine Below.setCell ?_ ?_ _) | (with_reducible refine Below.alloc ?_ ?_ _)))
  all_goals (first | (simp; done) | (simp; omega))

set_option maxRecDepth 100000 in
theorem specLsr_any (b : Int) (n v d i z c : Bool) (h0 : 0 ≤ b) (h1 : b ≤ 255) (w : World) :
    Calls Try.prog 7 #[.int .u8 b, .agg #[.bool n, .bool v, .bool d, .bool i, .bool z, .bool c]] w fun e w' => e = .returned (.tuple #[.int .u8 (mvR b false false), .agg #[.bool (bit7 (mvR b false false)), .bool v, .bool d, .bool i, .bool (isZ (mvR b false false)), .bool (mvC b false)]]) ∧ Below w.heap.size w w' := by
  obtain ⟨q0, q1⟩ := mvR_bd b false false h0 h1
  have HR := Lib.hid (show mvR b false false = b / 2 by unfold mvR; simp [bI])
  rw [HR.out] at q0 q1
  rw [HR.out]
  go_enter Try.func7, Try.ntmps7
  go_wp2_with fail
  refine (specNZ_any _ _ _ _ _ _ _ _ (by omega) (by omega)).mono ?_
  rintro e w1 ⟨rfl, hb⟩
  obtain ⟨hc, hf⟩ := bcell hb
  have hz : w.heap.size + 1 < w1.heap.size := by have := hb.size; simp at this; omega
  have hz0 : w.heap.size < w1.heap.size := by omega
  have hbw : Below w.heap.size w w1 := (((Below.refl _ _).alloc (Nat.le_refl _) _).alloc (by simp) _).trans (hb.mono (by simp; omega))
  go_wp2
  refine bodyPost_ret (v := (.tuple #[.int .u8 (b / 2), .agg #[.bool (bit7 (b / 2)), .bool v, .bool d, .bool i, .bool (isZ (b / 2)), .bool (mvC b false)]])) (by simp [results, Try.results7, go_sem, hc, hz, hz0, mvC, bit7]) rfl ⟨rfl, ?_⟩
  repeat (any_goals (first | (with_reducible exact hbw) | (with_reducible refine Below.drew ?_) | (with_reducible refine Below.setCell ?_ ?_ _) | (with_reducible refine Below.alloc ?_ ?_ _)))
  all_goals (first | (simp; done) | (simp; omega))

set_option maxRecDepth 100000 in
theorem specRol_any (b : Int) (n v d i z c : Bool) (h0 : 0 ≤ b) (h1 : b ≤ 255) (w : World) :
    Calls Try.prog 11 #[.int .u8 b, .agg #[.bool n, .bool v, .bool d, .bool i, .bool z, .bool c]] w fun e w' => e = .returned (.tuple #[.int .u8 (mvR b true c), .agg #[.bool (bit7 (mvR b true c)), .bool v, .bool d, .bool i, .bool (isZ (mvR b true c)), .bool (mvC b true)]]) ∧ Below w.heap.size w w' := by
  obtain ⟨ci, hci⟩ : ∃ x, bI c 1 = x := ⟨_, rfl⟩
  obtain ⟨hc0, hc1⟩ : 0 ≤ ci ∧ ci ≤ 1 := by rw [← hci]; exact bI_bd c 1 (by decide)
  have HCI := Lib.hid hci
  clear hci
  obtain ⟨q0, q1⟩ := mvR_bd b true c h0 h1
  have HR := Lib.hid (show mvR b true c = b * 2 % 256 + ci by unfold mvR; rw [← HCI.out]; rfl)
  rw [HR.out] at q0 q1
  rw [HR.out]
  go_enter Try.func11, Try.ntmps11
  go_wp2_with fail
  refine (l02Bit_any _ _ _).mono ?_
  rintro e w' ⟨rfl, rfl⟩
  rw [HCI.out]
  go_wp2_with fail
  refine (specNZ_any _ _ _ _ _ _ _ _ (by omega) (by omega)).mono ?_
  rintro e w1 ⟨rfl, hb⟩
  obtain ⟨hc, hf⟩ := bcell hb
  have hz : w.heap.size + 1 < w1.heap.size := by have := hb.size; simp at this; omega
  have hz0 : w.heap.size < w1.heap.size := by omega
  have hbw : Below w.heap.size w w1 := (((Below.refl _ _).alloc (Nat.le_refl _) _).alloc (by simp) _).trans (hb.mono (by simp; omega))
  go_wp2
  refine bodyPost_ret (v := (.tuple #[.int .u8 (b * 2 % 256 + ci), .agg #[.bool (bit7 (b * 2 % 256 + ci)), .bool v, .bool d, .bool i, .bool (isZ (b * 2 % 256 + ci)), .bool (mvC b true)]])) (by simp [results, Try.results11, go_sem, hc, hz, hz0, mvC, bit7]) rfl ⟨rfl, ?_⟩
  repeat (any_goals (first | (with_reducible exact hbw) | (with_reducible refine Below.drew ?_) | (with_reducible refine Below.setCell ?_ ?_ _) | (with_reducible refine Below.alloc ?_ ?_ _)))
  all_goals (first | (simp; done) | (simp; omega))

set_option maxRecDepth 100000 in
theorem specRor_any (b : Int) (n v d i z c : Bool) (h0 : 0 ≤ b) (h1 : b ≤ 255) (w : World) :
    Calls Try.prog 13 #[.int .u8 b, .agg #[.bool n, .bool v, .bool d, .bool i, .bool z, .bool c]] w fun e w' => e = .returned (.tuple #[.int .u8 (mvR b false c), .agg #[.bool (bit7 (mvR b false c)), .bool v, .bool d, .bool i, .bool (isZ (mvR b false c)), .bool (mvC b false)]]) ∧ Below w.heap.size w w' := by
  obtain ⟨ci, hci⟩ : ∃ x, bI c 128 = x := ⟨_, rfl⟩
  obtain ⟨hc0, hc1⟩ : 0 ≤ ci ∧ ci ≤ 128 := by rw [← hci]; exact bI_bd c 128 (by decide)
  have HCI := Lib.hid hci
  clear hci
  obtain ⟨q0, q1⟩ := mvR_bd b false c h0 h1
  have HR := Lib.hid (show mvR b false c = b / 2 + ci by unfold mvR; rw [← HCI.out]; rfl)
  rw [HR.out] at q0 q1
  rw [HR.out]
  go_enter Try.func13, Try.ntmps13
  go_wp2_with fail
  refine (l02Bit_any _ _ _).mono ?_
  rintro e w' ⟨rfl, rfl⟩
  rw [HCI.out]
  go_wp2_with fail
  refine (specNZ_any _ _ _ _ _ _ _ _ (by omega) (by omega)).mono ?_
  rintro e w1 ⟨rfl, hb⟩
  obtain ⟨hc, hf⟩ := bcell hb
  have hz : w.heap.size + 1 < w1.heap.size := by have := hb.size; simp at this; omega
  have hz0 : w.heap.size < w1.heap.size := by omega
  have hbw : Below w.heap.size w w1 := (((Below.refl _ _).alloc (Nat.le_refl _) _).alloc (by simp) _).trans (hb.mono (by simp; omega))
  go_wp2
  refine bodyPost_ret (v := (.tuple #[.int .u8 (b / 2 + ci), .agg #[.bool (bit7 (b / 2 + ci)), .bool v, .bool d, .bool i, .bool (isZ (b / 2 + ci)), .bool (mvC b false)]])) (by simp [results, Try.results13, go_sem, hc, hz, hz0, mvC, bit7]) rfl ⟨rfl, ?_⟩
  repeat (any_goals (first | (with_reducible exact hbw) | (with_reducible refine Below.drew ?_) | (with_reducible refine Below.setCell ?_ ?_ _) | (with_reducible refine Below.alloc ?_ ?_ _)))
  all_goals (first | (simp; done) | (simp; omega))

set_option maxRecDepth 100000 in
theorem specBitTest_any (a m : Int) (n v d i z c : Bool) (w : World) :
    Calls Try.prog 15 #[.int .u8 a, .int .u8 m, .agg #[.bool n, .bool v, .bool d, .bool i, .bool z, .bool c]] w fun e w' => e = .returned (.agg #[.bool (bit7 m), .bool (hasB m 64), .bool d, .bool i, .bool (isZ (bits .and .u8 a m)), .bool c]) ∧ Below w.heap.size w w' := by
  go_enter Try.func15, Try.ntmps15
  go_wp2
  refine bodyPost_ret (v := (.agg #[.bool (bit7 m), .bool (hasB m 64), .bool d, .bool i, .bool (isZ (bits .and .u8 a m)), .bool c])) (by simp [results, Try.results15, go_sem, bit7, isZ, hasB]) rfl ⟨rfl, ?_⟩
  exact ((Below.refl _ _).alloc (Nat.le_refl _) _).alloc (by simp) _

set_option maxRecDepth 100000 in
theorem implBitTest_any (a m : Int) (n v d i z c : Bool) (h2 : 0 ≤ m) (h3 : m ≤ 255) (w : World) :
    Calls Try.prog 16 #[.int .u8 a, .int .u8 m, .agg #[.bool n, .bool v, .bool d, .bool i, .bool z, .bool c]] w fun e w' => e = .returned (.agg #[.bool (bit7 m), .bool (hasB m 64), .bool d, .bool i, .bool (isZ (bits .and .u8 a m)), .bool c]) ∧ Below w.heap.size w w' := by
  go_enter Try.func16, Try.ntmps16
  go_wp2_with fail
  refine (hasBit_any _ _ _).mono ?_
  rintro e w' ⟨rfl, rfl⟩
  rw [hasB_128 _ h2 h3]
  go_wp2_with fail
  refine (hasBit_any _ _ _).mono ?_
  rintro e w' ⟨rfl, rfl⟩
  go_wp2
  refine bodyPost_ret (v := (.agg #[.bool (bit7 m), .bool (hasB m 64), .bool d, .bool i, .bool (isZ (bits .and .u8 a m)), .bool c])) (by simp [results, Try.results16, go_sem, isZ]) rfl ⟨rfl, ?_⟩
  exact ((Below.refl _ _).alloc (Nat.le_refl _) _).alloc (by simp) _

theorem toFlags_any (n v d i z c : Bool) (w : World) :
    Calls Try.prog 8 #[.agg #[.bool n, .bool v, .bool d, .bool i, .bool z, .bool c]] w fun e w' => e = .returned (.agg #[.bool n, .bool v, .bool d, .bool i, .bool z, .bool c]) ∧ Below w.heap.size w w' := by
  go_enter Try.func8, Try.ntmps8
  go_wp2
  refine bodyPost_ret (v := .agg #[.bool n, .bool v, .bool d, .bool i, .bool z, .bool c]) (by simp [results, Try.results8, go_sem]) rfl ⟨rfl, ?_⟩
  exact (((Below.refl _ _).alloc (Nat.le_refl _) _).alloc (by simp) _).alloc (by simp; omega) _

theorem eqFlags_same (n v d i z c : Bool) (w : World) :
    Calls Try.prog 10 #[.agg #[.bool n, .bool v, .bool d, .bool i, .bool z, .bool c], .agg #[.bool n, .bool v, .bool d, .bool i, .bool z, .bool c]] w fun e w' => e = .returned (.bool true) ∧ Below w.heap.size w w' := by
  go_enter Try.func10, Try.ntmps10
  go_wp2
  go_ret
  exact ⟨rfl, ((Below.refl _ _).alloc (Nat.le_refl _) _).alloc (by simp) _⟩

end Go.Proofs.Ytddfgplgjjkdcac
