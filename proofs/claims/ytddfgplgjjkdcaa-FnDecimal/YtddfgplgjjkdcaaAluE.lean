/-
  Contracts over the program: chapter 2: what is compared, moved, tested and packed, of both programs; and the exact laws' own toFlags and eqFlags.
-/
import Derived.Test.YtddfgplgjjkdcaaAluA
namespace Go.Proofs.Ytddfgplgjjkdcaa
open Go.RowKit

theorem pk_sum : ∀ n v brk d i z c : Bool, wrap64 (wrap64 (wrap64 (wrap64 (wrap64 (wrap64 (wrap64 (bI n 128 + bI v 64) + 32) + bI brk 16) + bI d 8) + bI i 4) + bI z 2) + bI c 1) % 256 = pkV n v brk d i z c := by
  decide +kernel

theorem tup_of {k : IntKind} {a b : Int} {p q : Bool} (h : a = b) (h' : p = q) : Ending.returned (.tuple #[.int k a, .bool p]) = .returned (.tuple #[.int k b, .bool q]) := by rw [h, h']

theorem moveBits_any (b : Int) (up inn : Bool) (w : World) (h0 : 0 ≤ b) (h1 : b ≤ 255) :
    Calls Try.prog 43 #[.int .u8 b, .bool up, .bool inn] w fun e w' => e = .returned (.tuple #[.int .u8 (mvR b up inn), .bool (mvC b up)]) ∧ w = w' := by
  have k1 := Lib.hid (or128_u8 b h0 h1)
  have k2 := Lib.hid (or1_u8 b h0 h1)
  have k3 := Lib.hid (hasB_128 b h0 h1)
  have k4 := Lib.hid (hasB_1 b h0 h1)
  unfold hasB at k3 k4
  cases up <;> cases inn
  all_goals
    go_enter Try.func43, Try.ntmps43
    go_wp2
    go_ret2
    refine ⟨tup_of ?_ ?_, rfl⟩
    · simp [mvR, bI, high_u8, k1.out, k2.out]
    · simp [mvC, high_u8, k3.out, k4.out]

set_option maxRecDepth 100000 in
theorem moveByte_any (b : Int) (up inn n v d i z c : Bool) (h0 : 0 ≤ b) (h1 : b ≤ 255) (w : World) :
    Calls Try.prog 34 #[.int .u8 b, .bool up, .bool inn, .agg #[.bool n, .bool v, .bool d, .bool i, .bool z, .bool c]] w fun e w' => e = .returned (.tuple #[.int .u8 (mvR b up inn), .agg #[.bool (bit7 (mvR b up inn)), .bool v, .bool d, .bool i, .bool (isZ (mvR b up inn)), .bool (mvC b up)]]) ∧ Below w.heap.size w w' := by
  obtain ⟨q0, q1⟩ := mvR_bd b up inn h0 h1
  go_enter Try.func34, Try.ntmps34
  go_wp2_with fail
  refine (moveBits_any _ _ _ _ h0 h1).mono ?_
  rintro e w' ⟨rfl, rfl⟩
  go_wp2_with fail
  refine (implNZ_any _ _ _ _ _ _ _ _ q0 q1).mono ?_
  rintro e w1 ⟨rfl, hb⟩
  obtain ⟨hc, hf⟩ := bcell hb
  have hz : w.heap.size + 1 < w1.heap.size := by have := hb.size; simp at this; omega
  have hz0 : w.heap.size < w1.heap.size := by omega
  have hbw : Below w.heap.size w w1 := (((Below.refl _ _).alloc (Nat.le_refl _) _).alloc (by simp) _).trans (hb.mono (by simp; omega))
  go_wp2
  refine bodyPost_ret (v := (.tuple #[.int .u8 (mvR b up inn), .agg #[.bool (bit7 (mvR b up inn)), .bool v, .bool d, .bool i, .bool (isZ (mvR b up inn)), .bool (mvC b up)]])) (by simp [results, Try.results34, go_sem, hc, hz, hz0]) rfl ⟨rfl, ?_⟩
  repeat (any_goals (first | (with_reducible exact hbw) | (with_reducible refine Below.drew ?_) | (with_reducible refine Below.setCell ?_ ?_ _) | (with_reducible refine Below.alloc ?_ ?_ _)))
  all_goals (first | (simp; done) | (simp; omega))

set_option maxRecDepth 100000 in
theorem implAsl_any (b : Int) (n v d i z c : Bool) (h0 : 0 ≤ b) (h1 : b ≤ 255) (w : World) :
    Calls Try.prog 17 #[.int .u8 b, .agg #[.bool n, .bool v, .bool d, .bool i, .bool z, .bool c]] w fun e w' => e = .returned (.tuple #[.int .u8 (mvR b true false), .agg #[.bool (bit7 (mvR b true false)), .bool v, .bool d, .bool i, .bool (isZ (mvR b true false)), .bool (mvC b true)]]) ∧ Below w.heap.size w w' := by
  go_enter Try.func17, Try.ntmps17
  go_wp2_with fail
  refine (moveByte_any _ _ _ _ _ _ _ _ _ h0 h1 _).mono ?_
  rintro e w1 ⟨rfl, hb⟩
  obtain ⟨hc, hf⟩ := bcell hb
  have hz : w.heap.size + 1 < w1.heap.size := by have := hb.size; simp at this; omega
  have hz0 : w.heap.size < w1.heap.size := by omega
  have hbw : Below w.heap.size w w1 := (((Below.refl _ _).alloc (Nat.le_refl _) _).alloc (by simp) _).trans (hb.mono (by simp; omega))
  go_wp2
  refine bodyPost_ret (v := (.tuple #[.int .u8 (mvR b true false), .agg #[.bool (bit7 (mvR b true false)), .bool v, .bool d, .bool i, .bool (isZ (mvR b true false)), .bool (mvC b true)]])) (by simp [results, Try.results17, go_sem, hc, hz, hz0]) rfl ⟨rfl, ?_⟩
  repeat (any_goals (first | (with_reducible exact hbw) | (with_reducible refine Below.drew ?_) | (with_reducible refine Below.setCell ?_ ?_ _) | (with_reducible refine Below.alloc ?_ ?_ _)))
  all_goals (first | (simp; done) | (simp; omega))

set_option maxRecDepth 100000 in
theorem implLsr_any (b : Int) (n v d i z c : Bool) (h0 : 0 ≤ b) (h1 : b ≤ 255) (w : World) :
    Calls Try.prog 18 #[.int .u8 b, .agg #[.bool n, .bool v, .bool d, .bool i, .bool z, .bool c]] w fun e w' => e = .returned (.tuple #[.int .u8 (mvR b false false), .agg #[.bool (bit7 (mvR b false false)), .bool v, .bool d, .bool i, .bool (isZ (mvR b false false)), .bool (mvC b false)]]) ∧ Below w.heap.size w w' := by
  go_enter Try.func18, Try.ntmps18
  go_wp2_with fail
  refine (moveByte_any _ _ _ _ _ _ _ _ _ h0 h1 _).mono ?_
  rintro e w1 ⟨rfl, hb⟩
  obtain ⟨hc, hf⟩ := bcell hb
  have hz : w.heap.size + 1 < w1.heap.size := by have := hb.size; simp at this; omega
  have hz0 : w.heap.size < w1.heap.size := by omega
  have hbw : Below w.heap.size w w1 := (((Below.refl _ _).alloc (Nat.le_refl _) _).alloc (by simp) _).trans (hb.mono (by simp; omega))
  go_wp2
  refine bodyPost_ret (v := (.tuple #[.int .u8 (mvR b false false), .agg #[.bool (bit7 (mvR b false false)), .bool v, .bool d, .bool i, .bool (isZ (mvR b false false)), .bool (mvC b false)]])) (by simp [results, Try.results18, go_sem, hc, hz, hz0]) rfl ⟨rfl, ?_⟩
  repeat (any_goals (first | (with_reducible exact hbw) | (with_reducible refine Below.drew ?_) | (with_reducible refine Below.setCell ?_ ?_ _) | (with_reducible refine Below.alloc ?_ ?_ _)))
  all_goals (first | (simp; done) | (simp; omega))

set_option maxRecDepth 100000 in
theorem implRol_any (b : Int) (n v d i z c : Bool) (h0 : 0 ≤ b) (h1 : b ≤ 255) (w : World) :
    Calls Try.prog 15 #[.int .u8 b, .agg #[.bool n, .bool v, .bool d, .bool i, .bool z, .bool c]] w fun e w' => e = .returned (.tuple #[.int .u8 (mvR b true c), .agg #[.bool (bit7 (mvR b true c)), .bool v, .bool d, .bool i, .bool (isZ (mvR b true c)), .bool (mvC b true)]]) ∧ Below w.heap.size w w' := by
  go_enter Try.func15, Try.ntmps15
  go_wp2_with fail
  refine (moveByte_any _ _ _ _ _ _ _ _ _ h0 h1 _).mono ?_
  rintro e w1 ⟨rfl, hb⟩
  obtain ⟨hc, hf⟩ := bcell hb
  have hz : w.heap.size + 1 < w1.heap.size := by have := hb.size; simp at this; omega
  have hz0 : w.heap.size < w1.heap.size := by omega
  have hbw : Below w.heap.size w w1 := (((Below.refl _ _).alloc (Nat.le_refl _) _).alloc (by simp) _).trans (hb.mono (by simp; omega))
  go_wp2
  refine bodyPost_ret (v := (.tuple #[.int .u8 (mvR b true c), .agg #[.bool (bit7 (mvR b true c)), .bool v, .bool d, .bool i, .bool (isZ (mvR b true c)), .bool (mvC b true)]])) (by simp [results, Try.results15, go_sem, hc, hz, hz0]) rfl ⟨rfl, ?_⟩
  repeat (any_goals (first | (with_reducible exact hbw) | (with_reducible refine Below.drew ?_) | (with_reducible refine Below.setCell ?_ ?_ _) | (with_reducible refine Below.alloc ?_ ?_ _)))
  all_goals (first | (simp; done) | (simp; omega))

set_option maxRecDepth 100000 in
theorem implRor_any (b : Int) (n v d i z c : Bool) (h0 : 0 ≤ b) (h1 : b ≤ 255) (w : World) :
    Calls Try.prog 16 #[.int .u8 b, .agg #[.bool n, .bool v, .bool d, .bool i, .bool z, .bool c]] w fun e w' => e = .returned (.tuple #[.int .u8 (mvR b false c), .agg #[.bool (bit7 (mvR b false c)), .bool v, .bool d, .bool i, .bool (isZ (mvR b false c)), .bool (mvC b false)]]) ∧ Below w.heap.size w w' := by
  go_enter Try.func16, Try.ntmps16
  go_wp2_with fail
  refine (moveByte_any _ _ _ _ _ _ _ _ _ h0 h1 _).mono ?_
  rintro e w1 ⟨rfl, hb⟩
  obtain ⟨hc, hf⟩ := bcell hb
  have hz : w.heap.size + 1 < w1.heap.size := by have := hb.size; simp at this; omega
  have hz0 : w.heap.size < w1.heap.size := by omega
  have hbw : Below w.heap.size w w1 := (((Below.refl _ _).alloc (Nat.le_refl _) _).alloc (by simp) _).trans (hb.mono (by simp; omega))
  go_wp2
  refine bodyPost_ret (v := (.tuple #[.int .u8 (mvR b false c), .agg #[.bool (bit7 (mvR b false c)), .bool v, .bool d, .bool i, .bool (isZ (mvR b false c)), .bool (mvC b false)]])) (by simp [results, Try.results16, go_sem, hc, hz, hz0]) rfl ⟨rfl, ?_⟩
  repeat (any_goals (first | (with_reducible exact hbw) | (with_reducible refine Below.drew ?_) | (with_reducible refine Below.setCell ?_ ?_ _) | (with_reducible refine Below.alloc ?_ ?_ _)))
  all_goals (first | (simp; done) | (simp; omega))

set_option maxRecDepth 100000 in
theorem implCmp_any (a b : Int) (n v d i z c : Bool) (h0 : 0 ≤ a) (h1 : a ≤ 255) (h2 : 0 ≤ b) (h3 : b ≤ 255) (w : World) :
    Calls Try.prog 22 #[.int .u8 a, .int .u8 b, .agg #[.bool n, .bool v, .bool d, .bool i, .bool z, .bool c]] w fun e w' => e = .returned (.agg #[.bool (bit7 ((a - b) % 256)), .bool v, .bool d, .bool i, .bool (isZ ((a - b) % 256)), .bool (cmC a b)]) ∧ Below w.heap.size w w' := by
  have q0 : 0 ≤ (a - b) % 256 := by omega
  have q1 : (a - b) % 256 ≤ 255 := by omega
  go_enter Try.func22, Try.ntmps22
  go_wp2_with fail
  refine (implNZ_any _ _ _ _ _ _ _ _ q0 q1).mono ?_
  rintro e w1 ⟨rfl, hb⟩
  obtain ⟨hc, hf⟩ := bcell hb
  have hz : w.heap.size + 1 < w1.heap.size := by have := hb.size; simp at this; omega
  have hz0 : w.heap.size < w1.heap.size := by omega
  have hbw : Below w.heap.size w w1 := (((Below.refl _ _).alloc (Nat.le_refl _) _).alloc (by simp) _).trans (hb.mono (by simp; omega))
  go_wp2
  refine bodyPost_ret (v := (.agg #[.bool (bit7 ((a - b) % 256)), .bool v, .bool d, .bool i, .bool (isZ ((a - b) % 256)), .bool (cmC a b)])) (by simp [results, Try.results22, go_sem, hc, hz, hz0, cmC]) rfl ⟨rfl, ?_⟩
  repeat (any_goals (first | (with_reducible exact hbw) | (with_reducible refine Below.drew ?_) | (with_reducible refine Below.setCell ?_ ?_ _) | (with_reducible refine Below.alloc ?_ ?_ _)))
  all_goals (first | (simp; done) | (simp; omega))

set_option maxRecDepth 100000 in
theorem implBitTest_any (a m : Int) (n v d i z c : Bool) (h2 : 0 ≤ m) (h3 : m ≤ 255) (w : World) :
    Calls Try.prog 25 #[.int .u8 a, .int .u8 m, .agg #[.bool n, .bool v, .bool d, .bool i, .bool z, .bool c]] w fun e w' => e = .returned (.agg #[.bool (bit7 m), .bool (hasB m 64), .bool d, .bool i, .bool (isZ (bits .and .u8 a m)), .bool c]) ∧ Below w.heap.size w w' := by
  go_enter Try.func25, Try.ntmps25
  go_wp2_with fail
  refine (hasBit_any _ _ _).mono ?_
  rintro e w' ⟨rfl, rfl⟩
  rw [hasB_128 _ h2 h3]
  go_wp2_with fail
  refine (hasBit_any _ _ _).mono ?_
  rintro e w' ⟨rfl, rfl⟩
  go_wp2
  refine bodyPost_ret (v := (.agg #[.bool (bit7 m), .bool (hasB m 64), .bool d, .bool i, .bool (isZ (bits .and .u8 a m)), .bool c])) (by simp [results, Try.results25, go_sem, isZ]) rfl ⟨rfl, ?_⟩
  exact ((Below.refl _ _).alloc (Nat.le_refl _) _).alloc (by simp) _

set_option maxRecDepth 100000 in
theorem specUnpackP_any (b : Int) (w : World) :
    Calls Try.prog 41 #[.int .u8 b] w fun e w' => e = .returned (.agg #[.bool (hasB b 128), .bool (hasB b 64), .bool (hasB b 8), .bool (hasB b 4), .bool (hasB b 2), .bool (hasB b 1)]) ∧ Below w.heap.size w w' := by
  go_enter Try.func41, Try.ntmps41
  go_wp2
  refine bodyPost_ret (v := (.agg #[.bool (hasB b 128), .bool (hasB b 64), .bool (hasB b 8), .bool (hasB b 4), .bool (hasB b 2), .bool (hasB b 1)])) (by simp [results, Try.results41, go_sem, hasB]) rfl ⟨rfl, ?_⟩
  exact (Below.refl _ _).alloc (Nat.le_refl _) _

set_option maxRecDepth 100000 in
theorem implUnpackP_any (b : Int) (w : World) :
    Calls Try.prog 23 #[.int .u8 b] w fun e w' => e = .returned (.agg #[.bool (hasB b 128), .bool (hasB b 64), .bool (hasB b 8), .bool (hasB b 4), .bool (hasB b 2), .bool (hasB b 1)]) ∧ Below w.heap.size w w' := by
  go_enter Try.func23, Try.ntmps23
  go_wp2_with fail
  refine (hasBit_any _ _ _).mono ?_
  rintro e w' ⟨rfl, rfl⟩
  go_wp2_with fail
  refine (hasBit_any _ _ _).mono ?_
  rintro e w' ⟨rfl, rfl⟩
  go_wp2_with fail
  refine (hasBit_any _ _ _).mono ?_
  rintro e w' ⟨rfl, rfl⟩
  go_wp2_with fail
  refine (hasBit_any _ _ _).mono ?_
  rintro e w' ⟨rfl, rfl⟩
  go_wp2_with fail
  refine (hasBit_any _ _ _).mono ?_
  rintro e w' ⟨rfl, rfl⟩
  go_wp2_with fail
  refine (hasBit_any _ _ _).mono ?_
  rintro e w' ⟨rfl, rfl⟩
  go_wp2
  refine bodyPost_ret (v := (.agg #[.bool (hasB b 128), .bool (hasB b 64), .bool (hasB b 8), .bool (hasB b 4), .bool (hasB b 2), .bool (hasB b 1)])) (by simp [results, Try.results23, go_sem]) rfl ⟨rfl, ?_⟩
  exact (Below.refl _ _).alloc (Nat.le_refl _) _

theorem specPackP_any (n v d i z c brk : Bool) (w : World) :
    Calls Try.prog 24 #[.agg #[.bool n, .bool v, .bool d, .bool i, .bool z, .bool c], .bool brk] w fun e w' => e = .returned (.int .u8 (pkV n v brk d i z c)) ∧ Below w.heap.size w w' := by
  go_enter Try.func24, Try.ntmps24
  go_wp2_with fail
  go_quiet ((go_at_call 38; exact Calls.quiet_of_same ((l02Bit_any _ _ _).mono fun _ _ h => ⟨h.1, h.2.symm⟩)))
  go_wp2
  go_ret
  exact ⟨ret_int (pk_sum n v brk d i z c), below_drewN ((Below.refl _ _).alloc (Nat.le_refl _) _) _⟩

theorem implPackP_any (n v d i z c brk : Bool) (w : World) :
    Calls Try.prog 20 #[.agg #[.bool n, .bool v, .bool d, .bool i, .bool z, .bool c], .bool brk] w fun e w' => e = .returned (.int .u8 (pkV n v brk d i z c)) ∧ Below w.heap.size w w' := by
  go_enter Try.func20, Try.ntmps20
  go_wp2_with fail
  go_quiet ((go_at_call 36; exact Calls.quiet_of_same ((bitWhere_any _ _ _).mono fun _ _ h => ⟨h.1, h.2.symm⟩)))
  go_wp2
  go_ret
  exact ⟨ret_int (pk_or n v brk d i z c), below_drewN ((Below.refl _ _).alloc (Nat.le_refl _) _) _⟩

theorem toFlags_any (n v d i z c : Bool) (w : World) :
    Calls Try.prog 27 #[.agg #[.bool n, .bool v, .bool d, .bool i, .bool z, .bool c]] w fun e w' => e = .returned (.agg #[.bool n, .bool v, .bool d, .bool i, .bool z, .bool c]) ∧ Below w.heap.size w w' := by
  go_enter Try.func27, Try.ntmps27
  go_wp2
  refine bodyPost_ret (v := .agg #[.bool n, .bool v, .bool d, .bool i, .bool z, .bool c]) (by simp [results, Try.results27, go_sem]) rfl ⟨rfl, ?_⟩
  exact (((Below.refl _ _).alloc (Nat.le_refl _) _).alloc (by simp) _).alloc (by simp; omega) _

end Go.Proofs.Ytddfgplgjjkdcaa
