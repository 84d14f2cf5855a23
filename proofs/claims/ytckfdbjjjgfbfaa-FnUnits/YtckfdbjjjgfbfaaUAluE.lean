/-
  Contracts over the program: chapter 2: what is compared, moved, tested and packed, of both programs; and the exact laws' own toFlags and eqFlags.
-/
import Derived.Test.YtckfdbjjjgfbfaaUAluA
namespace Go.Proofs.Ytckfdbjjjgfbfaa
set_option linter.unusedVariables false
set_option linter.unusedSimpArgs false
open Go.RowKit

theorem pk_sum : ∀ n v brk d i z c : Bool, wrap64 (wrap64 (wrap64 (wrap64 (wrap64 (wrap64 (wrap64 (bI n 128 + bI v 64) + 32) + bI brk 16) + bI d 8) + bI i 4) + bI z 2) + bI c 1) % 256 = pkV n v brk d i z c := by
  decide +kernel

set_option maxRecDepth 100000 in
theorem specAsl_any (b : Int) (n v d i z c : Bool) (h0 : 0 ≤ b) (h1 : b ≤ 255) (w : World) :
    Calls Try.prog 95 #[.int .u8 b, .agg #[.bool n, .bool v, .bool d, .bool i, .bool z, .bool c]] w fun e w' => e = .returned (.tuple #[.int .u8 (mvR b true false), .agg #[.bool (bit7 (mvR b true false)), .bool v, .bool d, .bool i, .bool (isZ (mvR b true false)), .bool (mvC b true)]]) ∧ Below w.heap.size w w' := by
  obtain ⟨q0, q1⟩ := mvR_bd b true false h0 h1
  have HR := Lib.hid (show mvR b true false = b * 2 % 256 by unfold mvR; simp [bI])
  rw [HR.out] at q0 q1
  rw [HR.out]
  go_enter Try.func95, Try.ntmps95
  go_wp2_with fail
  refine (specNZ_any _ _ _ _ _ _ _ _ (by omega) (by omega)).mono ?_
  rintro e w1 ⟨rfl, hb⟩
  obtain ⟨hc, hf⟩ := bcell hb
  have hz : w.heap.size + 1 < w1.heap.size := by have := hb.size; simp at this; omega
  have hz0 : w.heap.size < w1.heap.size := by omega
  have hbw : Below w.heap.size w w1 := (((Below.refl _ _).alloc (Nat.le_refl _) _).alloc (by simp) _).trans (hb.mono (by simp; omega))
  go_wp2
  refine bodyPost_ret (v := (.tuple #[.int .u8 (b * 2 % 256), .agg #[.bool (bit7 (b * 2 % 256)), .bool v, .bool d, .bool i, .bool (isZ (b * 2 % 256)), .bool (mvC b true)]])) (by simp [results, Try.results95, go_sem, hc, hz, hz0, mvC, bit7]) rfl ⟨rfl, ?_⟩
  repeat (any_goals (first | (with_reducible exact hbw) | (with_reducible refine Below.drew ?_) | (with_reducible refine Below.setCell ?_ ?_ _) | (with_reducible refine Below.alloc ?_ ?_ _)))
  all_goals (first | (simp; done) | (simp; omega))

set_option maxRecDepth 100000 in
theorem specLsr_any (b : Int) (n v d i z c : Bool) (h0 : 0 ≤ b) (h1 : b ≤ 255) (w : World) :
    Calls Try.prog 96 #[.int .u8 b, .agg #[.bool n, .bool v, .bool d, .bool i, .bool z, .bool c]] w fun e w' => e = .returned (.tuple #[.int .u8 (mvR b false false), .agg #[.bool (bit7 (mvR b false false)), .bool v, .bool d, .bool i, .bool (isZ (mvR b false false)), .bool (mvC b false)]]) ∧ Below w.heap.size w w' := by
  obtain ⟨q0, q1⟩ := mvR_bd b false false h0 h1
  have HR := Lib.hid (show mvR b false false = b / 2 by unfold mvR; simp [bI])
  rw [HR.out] at q0 q1
  rw [HR.out]
  go_enter Try.func96, Try.ntmps96
  go_wp2_with fail
  refine (specNZ_any _ _ _ _ _ _ _ _ (by omega) (by omega)).mono ?_
  rintro e w1 ⟨rfl, hb⟩
  obtain ⟨hc, hf⟩ := bcell hb
  have hz : w.heap.size + 1 < w1.heap.size := by have := hb.size; simp at this; omega
  have hz0 : w.heap.size < w1.heap.size := by omega
  have hbw : Below w.heap.size w w1 := (((Below.refl _ _).alloc (Nat.le_refl _) _).alloc (by simp) _).trans (hb.mono (by simp; omega))
  go_wp2
  refine bodyPost_ret (v := (.tuple #[.int .u8 (b / 2), .agg #[.bool (bit7 (b / 2)), .bool v, .bool d, .bool i, .bool (isZ (b / 2)), .bool (mvC b false)]])) (by simp [results, Try.results96, go_sem, hc, hz, hz0, mvC, bit7]) rfl ⟨rfl, ?_⟩
  repeat (any_goals (first | (with_reducible exact hbw) | (with_reducible refine Below.drew ?_) | (with_reducible refine Below.setCell ?_ ?_ _) | (with_reducible refine Below.alloc ?_ ?_ _)))
  all_goals (first | (simp; done) | (simp; omega))

set_option maxRecDepth 100000 in
theorem specRol_any (b : Int) (n v d i z c : Bool) (h0 : 0 ≤ b) (h1 : b ≤ 255) (w : World) :
    Calls Try.prog 97 #[.int .u8 b, .agg #[.bool n, .bool v, .bool d, .bool i, .bool z, .bool c]] w fun e w' => e = .returned (.tuple #[.int .u8 (mvR b true c), .agg #[.bool (bit7 (mvR b true c)), .bool v, .bool d, .bool i, .bool (isZ (mvR b true c)), .bool (mvC b true)]]) ∧ Below w.heap.size w w' := by
  obtain ⟨ci, hci⟩ : ∃ x, bI c 1 = x := ⟨_, rfl⟩
  obtain ⟨hc0, hc1⟩ : 0 ≤ ci ∧ ci ≤ 1 := by rw [← hci]; exact bI_bd c 1 (by decide)
  have HCI := Lib.hid hci
  clear hci
  obtain ⟨q0, q1⟩ := mvR_bd b true c h0 h1
  have HR := Lib.hid (show mvR b true c = b * 2 % 256 + ci by unfold mvR; rw [← HCI.out]; rfl)
  rw [HR.out] at q0 q1
  rw [HR.out]
  go_enter Try.func97, Try.ntmps97
  go_wp2_with fail
  refine (l02Bit_any _ _ _).mono ?_
  rintro e w' ⟨rfl, rfl⟩
  rw [HCI.out]
  go_wp2_with fail
  refine (specNZ_any _ _ _ _ _ _ _ _ (by omega) (by omega)).mono ?_
  rintro e w1 ⟨rfl, hb⟩
  obtain ⟨hc, hf⟩ := bcell hb
  have hz : w.heap.size + 1 < w1.heap.size := by have := hb.size; simp at this; omega
  have hz0 : w.heap.size < w1.heap.size := by omega
  have hbw : Below w.heap.size w w1 := (((Below.refl _ _).alloc (Nat.le_refl _) _).alloc (by simp) _).trans (hb.mono (by simp; omega))
  go_wp2
  refine bodyPost_ret (v := (.tuple #[.int .u8 (b * 2 % 256 + ci), .agg #[.bool (bit7 (b * 2 % 256 + ci)), .bool v, .bool d, .bool i, .bool (isZ (b * 2 % 256 + ci)), .bool (mvC b true)]])) (by simp [results, Try.results97, go_sem, hc, hz, hz0, mvC, bit7]) rfl ⟨rfl, ?_⟩
  repeat (any_goals (first | (with_reducible exact hbw) | (with_reducible refine Below.drew ?_) | (with_reducible refine Below.setCell ?_ ?_ _) | (with_reducible refine Below.alloc ?_ ?_ _)))
  all_goals (first | (simp; done) | (simp; omega))

set_option maxRecDepth 100000 in
theorem specRor_any (b : Int) (n v d i z c : Bool) (h0 : 0 ≤ b) (h1 : b ≤ 255) (w : World) :
    Calls Try.prog 98 #[.int .u8 b, .agg #[.bool n, .bool v, .bool d, .bool i, .bool z, .bool c]] w fun e w' => e = .returned (.tuple #[.int .u8 (mvR b false c), .agg #[.bool (bit7 (mvR b false c)), .bool v, .bool d, .bool i, .bool (isZ (mvR b false c)), .bool (mvC b false)]]) ∧ Below w.heap.size w w' := by
  obtain ⟨ci, hci⟩ : ∃ x, bI c 128 = x := ⟨_, rfl⟩
  obtain ⟨hc0, hc1⟩ : 0 ≤ ci ∧ ci ≤ 128 := by rw [← hci]; exact bI_bd c 128 (by decide)
  have HCI := Lib.hid hci
  clear hci
  obtain ⟨q0, q1⟩ := mvR_bd b false c h0 h1
  have HR := Lib.hid (show mvR b false c = b / 2 + ci by unfold mvR; rw [← HCI.out]; rfl)
  rw [HR.out] at q0 q1
  rw [HR.out]
  go_enter Try.func98, Try.ntmps98
  go_wp2_with fail
  refine (l02Bit_any _ _ _).mono ?_
  rintro e w' ⟨rfl, rfl⟩
  rw [HCI.out]
  go_wp2_with fail
  refine (specNZ_any _ _ _ _ _ _ _ _ (by omega) (by omega)).mono ?_
  rintro e w1 ⟨rfl, hb⟩
  obtain ⟨hc, hf⟩ := bcell hb
  have hz : w.heap.size + 1 < w1.heap.size := by have := hb.size; simp at this; omega
  have hz0 : w.heap.size < w1.heap.size := by omega
  have hbw : Below w.heap.size w w1 := (((Below.refl _ _).alloc (Nat.le_refl _) _).alloc (by simp) _).trans (hb.mono (by simp; omega))
  go_wp2
  refine bodyPost_ret (v := (.tuple #[.int .u8 (b / 2 + ci), .agg #[.bool (bit7 (b / 2 + ci)), .bool v, .bool d, .bool i, .bool (isZ (b / 2 + ci)), .bool (mvC b false)]])) (by simp [results, Try.results98, go_sem, hc, hz, hz0, mvC, bit7]) rfl ⟨rfl, ?_⟩
  repeat (any_goals (first | (with_reducible exact hbw) | (with_reducible refine Below.drew ?_) | (with_reducible refine Below.setCell ?_ ?_ _) | (with_reducible refine Below.alloc ?_ ?_ _)))
  all_goals (first | (simp; done) | (simp; omega))

set_option maxRecDepth 100000 in
theorem specCmp_any (a b : Int) (n v d i z c : Bool) (h0 : 0 ≤ a) (h1 : a ≤ 255) (h2 : 0 ≤ b) (h3 : b ≤ 255) (w : World) :
    Calls Try.prog 101 #[.int .u8 a, .int .u8 b, .agg #[.bool n, .bool v, .bool d, .bool i, .bool z, .bool c]] w fun e w' => e = .returned (.agg #[.bool (bit7 ((a - b) % 256)), .bool v, .bool d, .bool i, .bool (isZ ((a - b) % 256)), .bool (cmC a b)]) ∧ Below w.heap.size w w' := by
  have q0 : 0 ≤ (a - b) % 256 := by omega
  have q1 : (a - b) % 256 ≤ 255 := by omega
  go_enter Try.func101, Try.ntmps101
  go_wp2_with fail
  refine (specNZ_any _ _ _ _ _ _ _ _ q0 q1).mono ?_
  rintro e w1 ⟨rfl, hb⟩
  obtain ⟨hc, hf⟩ := bcell hb
  have hz : w.heap.size + 1 < w1.heap.size := by have := hb.size; simp at this; omega
  have hz0 : w.heap.size < w1.heap.size := by omega
  have hbw : Below w.heap.size w w1 := (((Below.refl _ _).alloc (Nat.le_refl _) _).alloc (by simp) _).trans (hb.mono (by simp; omega))
  go_wp2
  refine bodyPost_ret (v := (.agg #[.bool (bit7 ((a - b) % 256)), .bool v, .bool d, .bool i, .bool (isZ ((a - b) % 256)), .bool (cmC a b)])) (by simp [results, Try.results101, go_sem, hc, hz, hz0, cmC]) rfl ⟨rfl, ?_⟩
  repeat (any_goals (first | (with_reducible exact hbw) | (with_reducible refine Below.drew ?_) | (with_reducible refine Below.setCell ?_ ?_ _) | (with_reducible refine Below.alloc ?_ ?_ _)))
  all_goals (first | (simp; done) | (simp; omega))

set_option maxRecDepth 100000 in
theorem specBitTest_any (a m : Int) (n v d i z c : Bool) (w : World) :
    Calls Try.prog 102 #[.int .u8 a, .int .u8 m, .agg #[.bool n, .bool v, .bool d, .bool i, .bool z, .bool c]] w fun e w' => e = .returned (.agg #[.bool (bit7 m), .bool (hasB m 64), .bool d, .bool i, .bool (isZ (bits .and .u8 a m)), .bool c]) ∧ Below w.heap.size w w' := by
  go_enter Try.func102, Try.ntmps102
  go_wp2
  refine bodyPost_ret (v := (.agg #[.bool (bit7 m), .bool (hasB m 64), .bool d, .bool i, .bool (isZ (bits .and .u8 a m)), .bool c])) (by simp [results, Try.results102, go_sem, bit7, isZ, hasB]) rfl ⟨rfl, ?_⟩
  exact ((Below.refl _ _).alloc (Nat.le_refl _) _).alloc (by simp) _

set_option maxRecDepth 100000 in
theorem specUnpackP_any (b : Int) (w : World) :
    Calls Try.prog 77 #[.int .u8 b] w fun e w' => e = .returned (.agg #[.bool (hasB b 128), .bool (hasB b 64), .bool (hasB b 8), .bool (hasB b 4), .bool (hasB b 2), .bool (hasB b 1)]) ∧ Below w.heap.size w w' := by
  go_enter Try.func77, Try.ntmps77
  go_wp2
  refine bodyPost_ret (v := (.agg #[.bool (hasB b 128), .bool (hasB b 64), .bool (hasB b 8), .bool (hasB b 4), .bool (hasB b 2), .bool (hasB b 1)])) (by simp [results, Try.results77, go_sem, hasB]) rfl ⟨rfl, ?_⟩
  exact (Below.refl _ _).alloc (Nat.le_refl _) _

theorem specPackP_any (n v d i z c brk : Bool) (w : World) :
    Calls Try.prog 80 #[.agg #[.bool n, .bool v, .bool d, .bool i, .bool z, .bool c], .bool brk] w fun e w' => e = .returned (.int .u8 (pkV n v brk d i z c)) ∧ Below w.heap.size w w' := by
  go_enter Try.func80, Try.ntmps80
  go_wp2_with fail
  go_quiet ((go_at_call 91; exact Calls.quiet_of_same ((l02Bit_any _ _ _).mono fun _ _ h => ⟨h.1, h.2.symm⟩)))
  go_wp2
  go_ret
  exact ⟨ret_intA (pk_sum n v brk d i z c), below_drewN ((Below.refl _ _).alloc (Nat.le_refl _) _) _⟩

end Go.Proofs.Ytckfdbjjjgfbfaa
