/-
  Contracts over the program: spec.ReadHex and impl.ReadHex: both read the same number.
-/
import Derived.Test.YtppkcljpfjdlnaaDig
namespace Go.Proofs.Ytppkcljpfjdlnaa
set_option linter.unusedVariables false
set_option linter.unusedSimpArgs false
open Go.RowKit

/-- The number whose hexadecimal text of so many digits s is, -1 where there is none. -/
def rhex (s : ByteArray) (d : Int) : Int := if 1 ≤ d ∧ d ≤ 8 ∧ (s.size : Int) = d then rd 16 s.data.toList 0 else -1

theorem rhex_no (s : ByteArray) (d : Int) (h : ¬ (1 ≤ d ∧ d ≤ 8 ∧ (s.size : Int) = d)) : rhex s d = -1 := if_neg h
theorem rhex_yes (s : ByteArray) (d : Int) (h : 1 ≤ d ∧ d ≤ 8 ∧ (s.size : Int) = d) : rhex s d = rd 16 s.data.toList 0 := if_pos h

theorem dig_dec (c : Int) (h1 : 48 ≤ c) (h2 : c ≤ 57) : dig c = c - 48 := if_pos ⟨h1, h2⟩
theorem dig_let (c : Int) (h1 : 65 ≤ c) (h2 : c ≤ 70) : dig c = c - 55 := by
  unfold dig; rw [if_neg (by omega), if_pos ⟨h1, h2⟩]
theorem dig_no (c : Int) (h1 : ¬ (48 ≤ c ∧ c ≤ 57)) (h2 : ¬ (65 ≤ c ∧ c ≤ 70)) : dig c = -1 := by
  unfold dig; rw [if_neg h1, if_neg h2]

theorem implReadHex_any (s : ByteArray) (d : Int) (w : World) (hs : s.size ≤ maxLen) :
    Calls Try.prog 73 #[.string s, .int .i64 d] w fun e w' => e = .returned (.int .i64 (rhex s d)) ∧ (w = w' ∨ ∃ p, w' = w.iter s p) := by
  unfold maxLen at hs
  by_cases h1 : 1 ≤ d ∧ d ≤ 8
  · obtain ⟨h1, h2⟩ := h1
    by_cases h3 : (s.size : Int) = d
    · have HR := Lib.hid (rhex_yes s d ⟨h1, h2, h3⟩)
      subst h3
      go_enter Try.func73, Try.ntmps73
      go_wp2_with fail
      refine (hexok_any _ _).mono ?_
      rintro e w' ⟨rfl, rfl⟩
      go_wp2_with fail
      refine (readDigits_any _ _ _ (by omega) (by omega) (by omega)).mono ?_
      rintro e w' ⟨rfl, p, rfl⟩
      go_wp2
      go_ret; exact ⟨ret_int HR.out.symm, .inr ⟨_, rfl⟩⟩
    · have HR := Lib.hid (rhex_no s d (fun h => h3 h.2.2))
      have hb : (((s.size : Int)) != d) = true := by rw [bne_iff_ne]; exact h3
      clear h3
      go_enter Try.func73, Try.ntmps73
      go_wp2_with fail
      refine (hexok_any _ _).mono ?_
      rintro e w' ⟨rfl, rfl⟩
      go_wp2
      go_ret; exact ⟨ret_int HR.out.symm, .inl rfl⟩
  · have HR := Lib.hid (rhex_no s d (fun h => h1 ⟨h.1, h.2.1⟩))
    have hb : (decide (1 ≤ d) && decide (d ≤ 8)) = false := by simp; omega
    clear h1
    go_enter Try.func73, Try.ntmps73
    go_wp2_with fail
    refine (hexok_any _ _).mono ?_
    rintro e w' ⟨rfl, rfl⟩
    rw [hb]
    clear hb
    go_wp2
    go_ret; exact ⟨ret_int HR.out.symm, .inl rfl⟩

theorem specReadHex_any (s : ByteArray) (d : Int) (w : World) (hs : s.size ≤ maxLen) :
    Calls Try.prog 66 #[.string s, .int .i64 d] w fun e w' => e = .returned (.int .i64 (rhex s d)) ∧ w = w' := by
  unfold maxLen at hs
  by_cases h1 : 1 ≤ d ∧ d ≤ 8
  · obtain ⟨h1, h2⟩ := h1
    by_cases h3 : (s.size : Int) = d
    · have HR := Lib.hid (rhex_yes s d ⟨h1, h2, h3⟩)
      subst h3
      go_enter Try.func66, Try.ntmps66
      go_wp2_with fail
      refine (in_any _ _ _ _).mono ?_
      rintro e w' ⟨rfl, rfl⟩
      go_wp2
      go_loop [5, 6] (fun n i => ∃ (k : Nat) (a : Int), k ≤ s.size ∧ 0 ≤ a ∧ a < 16 ^ k ∧ i = .int .i64 k ∧ n = .int .i64 a ∧ Hid (rd 16 (s.data.toList.drop k) a = rd 16 s.data.toList 0)) (fun _ i => s.size - (intOf i).toNat)
      case atStart => exact ⟨0, 0, Nat.zero_le _, by omega, by simp, rfl, rfl, Lib.hid (by simp)⟩
      case round =>
        obtain ⟨k, a, hk, ha0, ha1, rfl, rfl, H⟩ := hrel
        by_cases hp : k < s.size
        · have hb := byte_lt s k hp
          have hpl := pow_le16 k (by omega)
          by_cases hd : 48 ≤ (s[k].toNat : Int) ∧ (s[k].toNat : Int) ≤ 57
          · obtain ⟨hd1, hd2⟩ := hd
            have e := dig_dec _ hd1 hd2
            have HS := Lib.hid (rd_go 16 s k a hp (by omega) (by omega))
            have HE := Lib.hid e
            have hst := pow_step 16 a (dig (s[k]'hp).toNat) k ha0 ha1 (by omega) (by omega)
            clear e
            go_wp2_with fail
            refine (ldigit_any _ (by omega) (by omega) _).mono ?_
            rintro e w' ⟨rfl, rfl⟩
            go_wp2
            go_round
            case rel => exact ⟨k + 1, _, by omega, by omega, by rw [HE.out] at hst; omega, by go_num, rfl, Lib.hid (by rw [← H.out, HS.out, HE.out]; congr 1; omega)⟩
            case measure => simp [intOf]; omega
          · have hbd : (decide (48 ≤ (s[k].toNat : Int)) && decide ((s[k].toNat : Int) ≤ 57)) = false := by simp; omega
            by_cases hl : 65 ≤ (s[k].toNat : Int) ∧ (s[k].toNat : Int) ≤ 70
            · obtain ⟨hl1, hl2⟩ := hl
              have e := dig_let _ hl1 hl2
              have HS := Lib.hid (rd_go 16 s k a hp (by omega) (by omega))
              have HE := Lib.hid e
              have hst := pow_step 16 a (dig (s[k]'hp).toNat) k ha0 ha1 (by omega) (by omega)
              have HB := Lib.hid hbd
              clear e hd hbd
              go_wp2_with fail
              refine (ldigit_any _ (by omega) (by omega) _).mono ?_
              rintro e w' ⟨rfl, rfl⟩
              rw [HB.out]
              go_wp2_with fail
              refine (in_any _ _ _ _).mono ?_
              rintro e w' ⟨rfl, rfl⟩
              go_wp2
              go_round
              case rel => exact ⟨k + 1, _, by omega, by omega, by rw [HE.out] at hst; omega, by go_num, rfl, Lib.hid (by rw [← H.out, HS.out, HE.out]; congr 1; omega)⟩
              case measure => simp [intOf]; omega
            · have e := dig_no _ hd hl
              have HS := Lib.hid (rd_stop 16 s k a hp (.inl (by omega)))
              have HB := Lib.hid hbd
              have HB2 := Lib.hid (show (decide (65 ≤ (s[k].toNat : Int)) && decide ((s[k].toNat : Int) ≤ 70)) = false by simp; omega)
              clear e hd hbd hl
              go_wp2_with fail
              refine (ldigit_any _ (by omega) (by omega) _).mono ?_
              rintro e w' ⟨rfl, rfl⟩
              rw [HB.out]
              go_wp2_with fail
              refine (in_any _ _ _ _).mono ?_
              rintro e w' ⟨rfl, rfl⟩
              rw [HB2.out]
              go_wp2
              go_ret; exact ⟨ret_int (by rw [HR.out, ← H.out, HS.out]), rfl⟩
        · have HE := Lib.hid (rd_end 16 s k a (by omega))
          go_wp2
          go_ret; exact ⟨ret_int (by rw [HR.out, ← H.out, HE.out]), rfl⟩
    · have HR := Lib.hid (rhex_no s d (fun h => h3 h.2.2))
      have hb : (((s.size : Int)) != d) = true := by rw [bne_iff_ne]; exact h3
      clear h3
      go_enter Try.func66, Try.ntmps66
      go_wp2_with fail
      refine (in_any _ _ _ _).mono ?_
      rintro e w' ⟨rfl, rfl⟩
      go_wp2
      go_ret; exact ⟨ret_int HR.out.symm, rfl⟩
  · have HR := Lib.hid (rhex_no s d (fun h => h1 ⟨h.1, h.2.1⟩))
    have hb : (decide (1 ≤ d) && decide (d ≤ 8)) = false := by simp; omega
    clear h1
    go_enter Try.func66, Try.ntmps66
    go_wp2_with fail
    refine (in_any _ _ _ _).mono ?_
    rintro e w' ⟨rfl, rfl⟩
    rw [hb]
    clear hb
    go_wp2
    go_ret; exact ⟨ret_int HR.out.symm, rfl⟩

end Go.Proofs.Ytppkcljpfjdlnaa
