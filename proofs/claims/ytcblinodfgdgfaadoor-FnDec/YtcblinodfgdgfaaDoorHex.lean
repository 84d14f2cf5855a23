/-
  Contracts over the program: spec.ReadHex and impl.ReadHex: both read the same number.
-/
import Derived.Test.YtcblinodfgdgfaaDoorDig
namespace Go.Proofs.YtcblinodfgdgfaaDoor
open Go.RowKit

/-- The number whose hexadecimal text of so many digits s is, -1 where there is none. -/
def rhex (s : ByteArray) (d : Int) : Int := if 1 ≤ d ∧ d ≤ 8 ∧ (s.size : Int) = d then rd 16 s.data.toList 0 else -1

theorem rhex_no (s : ByteArray) (d : Int) (h : ¬ (1 ≤ d ∧ d ≤ 8 ∧ (s.size : Int) = d)) : rhex s d = -1 := if_neg h
theorem rhex_yes (s : ByteArray) (d : Int) (h : 1 ≤ d ∧ d ≤ 8 ∧ (s.size : Int) = d) : rhex s d = rd 16 s.data.toList 0 := if_pos h

theorem dig_dec (c : Int) (h1 : 48 ≤ c) (h2 : c ≤ 57) : dig c = c - 48 := if_pos ⟨h1, h2⟩
theorem dig_let (c : Int) (h1 : 65 ≤ c) (h2 : c ≤ 70) : dig c = c - 55 := by
  unfold dig; rw [if_neg (by omega), if_pos ⟨h1, h2⟩]
theorem dig_no (c : Int) (h1 : ¬ (48 ≤ c ∧ c ≤ 57)) (h2 : ¬ (65 ≤ c ∧ c ≤ 70)) : dig c = -1 := by
  unfold dig; rw [if_neg h1, if_neg h2]

theorem implReadHex_any (s : ByteArray) (d : Int) (w : World) (hs : s.size ≤ maxLen) :
    Calls Tryd.prog 12 #[.string s, .int .i64 d] w fun e w' => e = .returned (.int .i64 (rhex s d)) ∧ (w = w' ∨ ∃ p, w' = w.iter s p) := by
  unfold maxLen at hs
  by_cases h1 : 1 ≤ d ∧ d ≤ 8
  · obtain ⟨h1, h2⟩ := h1
    by_cases h3 : (s.size : Int) = d
    · have HR := Lib.hid (rhex_yes s d ⟨h1, h2, h3⟩)
      subst h3
      go_enter Tryd.func12, Tryd.ntmps12
      go_wp2_with fail
      refine (hexok_any _ _).mono ?_
      rintro e w' ⟨rfl, rfl⟩
      go_wp2_with fail
      refine (readDigits_any _ _ _ (by omega) (by omega) (by omega)).mono ?_
      rintro e w' ⟨rfl, p, rfl⟩
      go_wp2
      go_ret; exact ⟨ret_int HR.out.symm, .inr ⟨_, rfl⟩⟩
    · have HR := Lib.hid (rhex_no s d (fun h => h3 h.2.2))
      have hb : (((s.size : Int)) != d) = true := by rw [bne_iff_ne]; exact h3
      clear h3
      go_enter Tryd.func12, Tryd.ntmps12
      go_wp2_with fail
      refine (hexok_any _ _).mono ?_
      rintro e w' ⟨rfl, rfl⟩
      go_wp2
      go_ret; exact ⟨ret_int HR.out.symm, .inl rfl⟩
  · have HR := Lib.hid (rhex_no s d (fun h => h1 ⟨h.1, h.2.1⟩))
    have hb : (decide (1 ≤ d) && decide (d ≤ 8)) = false := by simp; omega
    clear h1
    go_enter Tryd.func12, Tryd.ntmps12
    go_wp2_with fail
    refine (hexok_any _ _).mono ?_
    rintro e w' ⟨rfl, rfl⟩
    rw [hb]
    clear hb
    go_wp2
    go_ret; exact ⟨ret_int HR.out.symm, .inl rfl⟩

end Go.Proofs.YtcblinodfgdgfaaDoor
