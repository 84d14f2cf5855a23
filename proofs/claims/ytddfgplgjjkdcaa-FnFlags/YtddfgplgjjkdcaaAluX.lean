/-
  Contracts over the program that tell the very world behind a call: NZ, BitTest, UnpackP and the model's PackP, for regions that leave their order open.
-/
import Derived.Test.YtddfgplgjjkdcaaAluE
import Derived.Deep.RegionWith
import Derived.Deep.Cut
namespace Go.Proofs.Ytddfgplgjjkdcaa
open Go.RowKit

theorem implNZ_exact (b : Int) (n v d i z c : Bool) (w : World) (h0 : 0 ≤ b) (h1 : b ≤ 255) :
    Calls Try.prog 26 #[.int .u8 b, .agg #[.bool n, .bool v, .bool d, .bool i, .bool z, .bool c]] w fun e w' => e = .returned (.agg #[.bool (bit7 b), .bool v, .bool d, .bool i, .bool (isZ b), .bool c]) ∧ (w.alloc (.cells #[.bool (bit7 b), .bool v, .bool d, .bool i, .bool (isZ b), .bool c] 25)).alloc (.cells #[.bool (bit7 b), .bool v, .bool d, .bool i, .bool (isZ b), .bool c] 25) = w' := by
  go_enter Try.func26, Try.ntmps26
  go_wp2_with fail
  refine (hasBit_any _ _ _).mono ?_
  rintro e w' ⟨rfl, rfl⟩
  rw [hasB_128 b h0 h1]
  go_wp2
  exact bodyPost_ret (v := .agg #[.bool (bit7 b), .bool v, .bool d, .bool i, .bool (isZ b), .bool c]) (by simp [results, Try.results26, go_sem, isZ]) rfl ⟨rfl, rfl⟩

theorem implBitTest_exact (a m : Int) (n v d i z c : Bool) (h2 : 0 ≤ m) (h3 : m ≤ 255) (w : World) :
    Calls Try.prog 25 #[.int .u8 a, .int .u8 m, .agg #[.bool n, .bool v, .bool d, .bool i, .bool z, .bool c]] w fun e w' => e = .returned (.agg #[.bool (bit7 m), .bool (hasB m 64), .bool d, .bool i, .bool (isZ (bits .and .u8 a m)), .bool c]) ∧ (w.alloc (.cells #[.bool (bit7 m), .bool (hasB m 64), .bool d, .bool i, .bool (isZ (bits .and .u8 a m)), .bool c] 25)).alloc (.cells #[.bool (bit7 m), .bool (hasB m 64), .bool d, .bool i, .bool (isZ (bits .and .u8 a m)), .bool c] 25) = w' := by
  go_enter Try.func25, Try.ntmps25
  go_wp2_with fail
  refine (hasBit_any _ _ _).mono ?_
  rintro e w' ⟨rfl, rfl⟩
  rw [hasB_128 _ h2 h3]
  go_wp2_with fail
  refine (hasBit_any _ _ _).mono ?_
  rintro e w' ⟨rfl, rfl⟩
  go_wp2
  exact bodyPost_ret (v := .agg #[.bool (bit7 m), .bool (hasB m 64), .bool d, .bool i, .bool (isZ (bits .and .u8 a m)), .bool c]) (by simp [results, Try.results25, go_sem, isZ]) rfl ⟨rfl, rfl⟩

theorem implUnpackP_exact (b : Int) (w : World) :
    Calls Try.prog 23 #[.int .u8 b] w fun e w' => e = .returned (.agg #[.bool (hasB b 128), .bool (hasB b 64), .bool (hasB b 8), .bool (hasB b 4), .bool (hasB b 2), .bool (hasB b 1)]) ∧ w.alloc (.cells #[.bool (hasB b 128), .bool (hasB b 64), .bool (hasB b 8), .bool (hasB b 4), .bool (hasB b 2), .bool (hasB b 1)] 25) = w' := by
  go_enter Try.func23, Try.ntmps23
  go_wp2_with fail
  refine (hasBit_any _ _ _).mono ?_
  rintro e w' ⟨rfl, rfl⟩
  go_wp2_with fail
  refine (hasBit_any _ _ _).mono ?_
  rintro e w' ⟨rfl, rfl⟩
  go_wp2_with fail
  refine (hasBit_any _ _ _).mono ?_
  rintro e w' ⟨rfl, rfl⟩
  go_wp2_with fail
  refine (hasBit_any _ _ _).mono ?_
  rintro e w' ⟨rfl, rfl⟩
  go_wp2_with fail
  refine (hasBit_any _ _ _).mono ?_
  rintro e w' ⟨rfl, rfl⟩
  go_wp2_with fail
  refine (hasBit_any _ _ _).mono ?_
  rintro e w' ⟨rfl, rfl⟩
  go_wp2
  exact bodyPost_ret (v := .agg #[.bool (hasB b 128), .bool (hasB b 64), .bool (hasB b 8), .bool (hasB b 4), .bool (hasB b 2), .bool (hasB b 1)]) (by simp [results, Try.results23, go_sem]) rfl ⟨rfl, rfl⟩

end Go.Proofs.Ytddfgplgjjkdcaa
