/-
  A contract over the program: spec.DecText gives a number's decimal numeral, at every int.
-/
import Derived.Test.YtcblinodfgdgfaaDoorDig
import Derived.Test.YtcblinodfgdgfaaDoorDec
namespace Go.Proofs.YtcblinodfgdgfaaDoor
open Go.RowKit
open Go.Lib (decDigits itoa nDigits)

theorem ret_str {a b : ByteArray} (h : a = b) : Ending.returned (.string a) = .returned (.string b) := by rw [h]

theorem dec_len (u : Nat) (h : u < 18446744073709551616) : (decDigits u).length ≤ 20 := by rw [Lib.decDigits_length]; exact Lib.nDigits_le20 u h

theorem specDecText_zero (w : World) :
    Calls Tryd.prog 10 #[.int .i64 0] w fun e w' => e = .returned (.string ⟨(itoa 0).toArray⟩) ∧ w = w' := by
  have H := Lib.hid (show itoa 0 = [48] by unfold itoa; rw [if_neg (by omega)]; exact dec_small 0 (by decide))
  go_enter Tryd.func10, Tryd.ntmps10
  go_wp2
  go_ret; exact ⟨ret_str (by rw [H.out]), rfl⟩

theorem specDecText_pos (N : Nat) (h0 : 0 < N) (h1 : N ≤ 9223372036854775807) (w : World) :
    Calls Tryd.prog 10 #[.int .i64 N] w fun e w' => e = .returned (.string ⟨(decDigits N).toArray⟩) ∧ w = w' := by
  have hne : (((N : Int)) == 0) = false := by rw [beq_eq_false_iff_ne]; omega
  have hN := dec_len N (by omega)
  go_enter Tryd.func10, Tryd.ntmps10
  go_wp2
  go_loop [3, 4] (fun out m => ∃ (u : Nat) (L : List UInt8), u ≤ N ∧ m = .int .i64 u ∧ out = .string ⟨L.toArray⟩ ∧ Hid (decP u ++ L = decDigits N)) (fun _ m => (intOf m).toNat)
  case atStart => exact ⟨N, [], Nat.le_refl _, rfl, rfl, Lib.hid (by rw [decP_pos N h0]; simp)⟩
  case round =>
    obtain ⟨u, L, hu, rfl, rfl, H⟩ := hrel
    have hL : L.length ≤ 20 := by have := congrArg List.length H.out; simp at this; omega
    by_cases hz : 0 < u
    · have hb : (((u : Int)) != 0) = true := by rw [bne_iff_ne]; omega
      go_wp2
      go_round
      case rel => exact ⟨u / 10, UInt8.ofNat (48 + u % 10) :: L, by omega, by go_num, by rw [piece_append _ (by omega)], Lib.hid (by rw [← H.out, decP_step u hz]; simp)⟩
      case measure => simp [intOf]; omega
    · obtain rfl : u = 0 := by omega
      go_wp2
      go_ret; exact ⟨ret_str (by rw [← H.out, decP_zero]; rfl), rfl⟩

theorem specDecText_neg (N : Nat) (h0 : 0 < N) (h1 : N ≤ 9223372036854775808) (w : World) :
    Calls Tryd.prog 10 #[.int .i64 (-(N : Int))] w fun e w' => e = .returned (.string ⟨(45 :: decDigits N).toArray⟩) ∧ w = w' := by
  have hne : ((-(N : Int)) == 0) = false := by rw [beq_eq_false_iff_ne]; omega
  have hN := dec_len N (by omega)
  have hneg : -(N : Int) < 0 := by omega
  go_enter Tryd.func10, Tryd.ntmps10
  go_wp2
  go_loop [3, 4] (fun out m => ∃ (u : Nat) (L : List UInt8), u ≤ N ∧ m = .int .i64 (-(u : Int)) ∧ out = .string ⟨L.toArray⟩ ∧ Hid (decP u ++ L = decDigits N)) (fun _ m => (-intOf m).toNat)
  case atStart => exact ⟨N, [], Nat.le_refl _, rfl, rfl, Lib.hid (by rw [decP_pos N h0]; simp)⟩
  case round =>
    obtain ⟨u, L, hu, rfl, rfl, H⟩ := hrel
    have hL : L.length ≤ 20 := by have := congrArg List.length H.out; simp at this; omega
    by_cases hz : 0 < u
    · have hb : ((-(u : Int)) != 0) = true := by rw [bne_iff_ne]; omega
      go_wp2
      · go_round
        case rel => exact ⟨u / 10, UInt8.ofNat (48 + u % 10) :: L, by omega, by go_num, by rw [piece_append _ (by omega)], Lib.hid (by rw [← H.out, decP_step u hz]; simp)⟩
        case measure => simp [intOf]; omega
      · have hm : (u : Int) % 10 ≤ 0 := by assumption
        have e1 : (-((u : Int) % 10)).toNat = u % 10 := by omega
        have e2 : (-((u : Int) % 10) + 1).toNat = u % 10 + 1 := by omega
        go_round
        case rel => exact ⟨u / 10, UInt8.ofNat (48 + u % 10) :: L, by omega, by go_num, by rw [e1, e2, piece_append _ (by omega)], Lib.hid (by rw [← H.out, decP_step u hz]; simp)⟩
        case measure => simp [intOf]; omega
    · obtain rfl : u = 0 := by omega
      go_wp2
      go_ret; exact ⟨ret_str ((minus_append L).trans (by rw [← H.out, decP_zero]; rfl)), rfl⟩

theorem specDecText_any (n : Int) (h0 : -9223372036854775808 ≤ n) (h1 : n ≤ 9223372036854775807) (w : World) :
    Calls Tryd.prog 10 #[.int .i64 n] w fun e w' => e = .returned (.string ⟨(itoa n).toArray⟩) ∧ w = w' := by
  by_cases hz : n = 0
  · subst hz; exact specDecText_zero w
  · by_cases hp : 0 < n
    · obtain ⟨u, rfl⟩ := Int.eq_ofNat_of_zero_le (show 0 ≤ n by omega)
      have e : itoa (u : Int) = decDigits u := by unfold itoa; rw [if_neg (by omega)]; rfl
      rw [e]
      exact specDecText_pos u (by omega) (by omega) w
    · obtain ⟨u, rfl⟩ : ∃ u : Nat, n = -(u : Int) := ⟨n.natAbs, by omega⟩
      have e : itoa (-(u : Int)) = 45 :: decDigits u := by unfold itoa; rw [if_pos (by omega)]; congr 2; omega
      rw [e]
      exact specDecText_neg u (by omega) (by omega) w

end Go.Proofs.YtcblinodfgdgfaaDoor
