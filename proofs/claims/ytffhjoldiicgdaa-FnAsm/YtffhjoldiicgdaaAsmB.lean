/-
  Contracts over the program: the digits behind a text's first dollar sign (l04Digits), the model's.
-/
import Derived.Test.YtffhjoldiicgdaaAsmA
import Derived.Test.YtffhjoldiicgdaaHex
import Derived.Test.YtffhjoldiicgdaaCut
namespace Go.Proofs.Ytffhjoldiicgdaa
set_option linter.unusedVariables false
set_option linter.unusedSimpArgs false
open Go.RowKit

theorem takeWhile_at (p : UInt8 → Bool) : ∀ (l : List UInt8) (m : Nat), m ≤ l.length → (∀ j, j < m → p (l.getD j 0) = true) → (m = l.length ∨ p (l.getD m 0) = false) → l.takeWhile p = l.take m
  | [], m, _, _, _ => by simp
  | c :: r, 0, _, _, h => by
    rcases h with h | h
    · simp at h
    · have : p c = false := by simpa [List.getD] using h
      simp [List.takeWhile, this]
  | c :: r, m + 1, h1, h2, h3 => by
    have hc : p c = true := by simpa [List.getD] using h2 0 (by omega)
    have ih := takeWhile_at p r m (by simpa using h1) (fun j hj => by simpa [List.getD] using h2 (j + 1) (by omega)) (by
      rcases h3 with h | h
      · exact .inl (by simpa using h)
      · exact .inr (by simpa [List.getD] using h))
    simp [List.takeWhile, hc, ih]

theorem getD_drop (l : List UInt8) (n j : Nat) : (l.drop n).getD j 0 = l.getD (n + j) 0 := by simp [List.getD, List.getElem?_drop]

def noDol (c : UInt8) : Bool := c != 36
def isHx (c : UInt8) : Bool := decide (0 ≤ dig (c.toNat : Int))
/-- Where a text's first dollar sign stands. -/
def dolAt (l : List UInt8) : Nat := (l.takeWhile noDol).length
/-- The digits behind it. -/
def digitsL (l : List UInt8) : List UInt8 := (l.drop (dolAt l + 1)).takeWhile isHx

theorem dolAt_of (l : List UInt8) (k : Nat) (hk : k ≤ l.length) (h1 : ∀ j, j < k → noDol (l.getD j 0) = true) (h2 : k = l.length ∨ noDol (l.getD k 0) = false) : dolAt l = k := by
  unfold dolAt; rw [takeWhile_at noDol l k hk h1 h2]; simp [hk]

theorem noDol_iff (c : UInt8) : noDol c = ((c.toNat : Int) != 36) := by
  unfold noDol
  rw [Bool.eq_iff_iff]; simp
  constructor
  · intro h e; exact h (UInt8.toNat_inj.1 (show c.toNat = 36 by omega))
  · intro h e; rw [e] at h; exact h rfl

theorem rhex_one (s : ByteArray) (m : Nat) (h : m < s.size) : rhex (s.extract m (m + 1)) 1 = dig (s[m].toNat : Int) := by
  have hsz : (s.extract m (m + 1)).size = 1 := by rw [ByteArray.size_extract]; omega
  rw [rhex_yes _ _ ⟨by omega, by omega, by rw [hsz]; rfl⟩, extract_part, show m + 1 - m = 1 by omega]
  have hd := drop_cons s m h
  rw [hd]
  have hb := dig_le (s[m].toNat : Int)
  simp only [strOf, List.take_succ_cons, List.take_zero, rd]
  by_cases hneg : dig (s[m].toNat : Int) < 0
  · rw [if_pos (.inl hneg)]; omega
  · rw [if_neg (by omega)]; omega

set_option maxRecDepth 100000 in
theorem l04Digits_any (s : ByteArray) (w : World) (hs : s.size ≤ maxLen) :
    Calls Try.prog 49 #[.string s] w fun e w' => e = .returned (.string (strOf (digitsL s.data.toList))) ∧ w = w' := by
  unfold maxLen at hs
  have HL := Lib.hid (show s.data.toList.length = s.size from Array.length_toList)
  go_enter Try.func49, Try.ntmps49
  go_wp2
  go_loop [3] (fun i => ∃ k : Nat, k ≤ s.size ∧ i = .int .i64 k ∧ Hid (∀ j, j < k → noDol (s.data.toList.getD j 0) = true)) (fun i => s.size - (intOf i).toNat)
  case atStart => exact ⟨0, Nat.zero_le _, rfl, Lib.hid (fun j hj => by omega)⟩
  case round =>
    obtain ⟨k, hk, rfl, HK⟩ := hrel
    by_cases hp : k < s.size
    · cases hd : ((s[k].toNat : Int) != 36) with
      | true =>
        have HD := Lib.hid (show noDol (s.data.toList.getD k 0) = true by rw [getD_at s k hp, noDol_iff]; exact hd)
        go_wp2
        go_round
        case rel =>
          exact ⟨k + 1, by omega, by go_num, Lib.hid (fun j hj => by
            by_cases hjk : j = k
            · subst hjk; exact HD.out
            · exact HK.out j (by omega))⟩
        case measure => simp [intOf]; omega
      | false =>
        have hdol : dolAt s.data.toList = k := dolAt_of _ k (by rw [HL.out]; exact hk) HK.out (.inr (by rw [getD_at s k hp, noDol_iff]; exact hd))
        have HDOL := Lib.hid hdol
        clear hdol
        have fin : ∀ m : Nat, k + 1 ≤ m → m ≤ s.size → (∀ j, k + 1 ≤ j → j < m → isHx (s.data.toList.getD j 0) = true) → (m = s.size ∨ isHx (s.data.toList.getD m 0) = false) → s.extract (k + 1) m = strOf (digitsL s.data.toList) := fun m h1 h2 h3 h4 => by
          have e := takeWhile_at isHx (s.data.toList.drop (k + 1)) (m - (k + 1)) (by rw [List.length_drop, HL.out]; omega) (fun j hj => by
            have := h3 (k + 1 + j) (by omega) (by omega)
            rwa [getD_drop]) (by
            rcases h4 with h | h
            · exact .inl (by rw [List.length_drop, HL.out]; omega)
            · exact .inr (by rw [getD_drop, show k + 1 + (m - (k + 1)) = m by omega]; exact h))
          rw [digitsL, HDOL.out, e, extract_part]
        have FIN := Lib.hid fin
        clear fin
        go_wp2
        go_loop [4] (fun en => ∃ m : Nat, k + 1 ≤ m ∧ m ≤ s.size ∧ en = .int .i64 m ∧ Hid (∀ j, k + 1 ≤ j → j < m → isHx (s.data.toList.getD j 0) = true)) (fun en => s.size - (intOf en).toNat)
        case atStart => exact ⟨k + 1, Nat.le_refl _, by omega, by go_num, Lib.hid (fun j h1 h2 => by omega)⟩
        case round =>
          obtain ⟨m, hm1, hm2, rfl, HN⟩ := hrel
          by_cases hm : m < s.size
          · have hR := rhex_one s m hm
            have hX : isHx (s.data.toList.getD m 0) = decide (0 ≤ dig (s[m].toNat : Int)) := by rw [getD_at s m hm]; rfl
            have hE : (s.extract m (m + 1)).size ≤ maxLen := by rw [ByteArray.size_extract]; unfold maxLen; omega
            have hle := dig_le (s[m].toNat : Int)
            have HR := Lib.hid hR
            have HX := Lib.hid hX
            clear hR hX
            by_cases h0 : 0 ≤ dig (s[m].toNat : Int)
            · obtain ⟨D, hD⟩ : ∃ D, dig (s[m].toNat : Int) = D := ⟨_, rfl⟩
              have HX2 := Lib.hid (show isHx (s.data.toList.getD m 0) = true by rw [HX.out]; simpa using h0)
              rw [hD] at h0
              have HD := Lib.hid hD
              clear hD hle
              go_wp2_with fail
              refine (specReadHex_any _ _ _ hE).mono ?_
              rintro e w' ⟨rfl, rfl⟩
              rw [HR.out, HD.out]
              go_wp2
              go_round
              case rel =>
                exact ⟨m + 1, by omega, by omega, by go_num, Lib.hid (fun j h1 h2 => by
                  by_cases hjk : j = m
                  · subst hjk; exact HX2.out
                  · exact HN.out j h1 (by omega))⟩
              case measure => simp [intOf]; omega
            · have e1 : dig (s[m].toNat : Int) = -1 := by omega
              have HF := Lib.hid (FIN.out m hm1 hm2 HN.out (.inr (by rw [HX.out]; simpa using h0)))
              have HD := Lib.hid e1
              clear e1 h0 hle
              go_wp2_with fail
              refine (specReadHex_any _ _ _ hE).mono ?_
              rintro e w' ⟨rfl, rfl⟩
              rw [HR.out, HD.out]
              go_wp2
              go_ret
              exact ⟨ret_text HF.out, rfl⟩
          · obtain rfl : m = s.size := by omega
            have HF := Lib.hid (FIN.out s.size hm1 (Nat.le_refl _) HN.out (.inl rfl))
            go_wp2
            go_ret
            exact ⟨ret_text HF.out, rfl⟩
    · obtain rfl : k = s.size := by omega
      have HF := Lib.hid (show digitsL s.data.toList = [] by
        unfold digitsL
        rw [dolAt_of s.data.toList s.size (by rw [HL.out]; exact Nat.le_refl _) HK.out (.inl HL.out.symm), List.drop_eq_nil_of_le (by rw [HL.out]; omega)]
        rfl)
      go_wp2
      go_ret
      exact ⟨by rw [HF.out]; rfl, rfl⟩

end Go.Proofs.Ytffhjoldiicgdaa
