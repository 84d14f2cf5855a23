/-
  Plain facts on decimal numerals, without any Go: which texts are a number's numeral, and what a loop over the digits gathers.
-/
import Derived.Test.YtffhjoldiicgdabNum
import Derived.Lib.ItoaNum
import Derived.Lib.ItoaLen
import Derived.Laws.Concat
namespace Go.Proofs.Ytffhjoldiicgdab
set_option linter.unusedVariables false
set_option linter.unusedSimpArgs false
open Go.Lib (decDigits itoa nDigits)

theorem dec_small (u : Nat) (h : u < 10) : decDigits u = [UInt8.ofNat (48 + u)] := by rw [decDigits, dif_pos h]
theorem dec_big (u : Nat) (h : ¬ u < 10) : decDigits u = decDigits (u / 10) ++ [UInt8.ofNat (48 + u % 10)] := by rw [decDigits, dif_neg h]

theorem dec_ne_nil (u : Nat) : decDigits u ≠ [] := by
  by_cases h : u < 10
  · rw [dec_small u h]; simp
  · rw [dec_big u h]; simp

theorem dec_zero {u : Nat} (h : decDigits u = [48]) : u = 0 := by
  by_cases hu : u < 10
  · rw [dec_small u hu] at h
    injection h with h1 _
    have := congrArg UInt8.toNat h1
    rw [UInt8.toNat_ofNat'] at this
    have e : (48 : UInt8).toNat = 48 := rfl
    omega
  · rw [dec_big u hu] at h
    have := congrArg List.length h
    simp [Lib.decDigits_length] at this
    have := Lib.nDigits_pos (u / 10)
    omega

theorem dec_lead (u : Nat) : ∀ r, decDigits u = 48 :: r → r = [] := by
  induction u using Nat.strongRecOn with
  | _ u ih =>
    intro r h
    by_cases hu : u < 10
    · rw [dec_small u hu] at h
      injection h with _ h2
      exact h2.symm
    · rw [dec_big u hu] at h
      cases hd : decDigits (u / 10) with
      | nil => exact absurd hd (dec_ne_nil _)
      | cons x t =>
        rw [hd] at h
        injection h with h1 h2
        subst h1
        have ht := ih (u / 10) (by omega) t hd
        subst ht
        have := dec_zero hd
        omega

theorem dig_bounds (c : Int) (h1 : ¬ (dig c < 0 ∨ 10 ≤ dig c)) : 48 ≤ c ∧ c ≤ 57 ∧ dig c = c - 48 := by
  unfold dig at *
  split at h1
  · omega
  · split at h1 <;> omega

theorem rd_dec : ∀ (l : List UInt8) (n : Nat), 1 ≤ n → rd 10 l n ≠ -1 → 0 ≤ rd 10 l n ∧ decDigits (rd 10 l n).toNat = decDigits n ++ l
  | [], n, _, _ => by simp [rd]
  | c :: r, n, hn, h => by
    rw [rd] at h ⊢
    by_cases hd : dig (c.toNat : Int) < 0 ∨ 10 ≤ dig (c.toNat : Int)
    · rw [if_pos hd] at h; exact absurd rfl h
    · rw [if_neg hd] at h ⊢
      obtain ⟨h1, h2, h3⟩ := dig_bounds _ hd
      have e : (n : Int) * 10 + dig (c.toNat : Int) = ((n * 10 + (c.toNat - 48) : Nat) : Int) := by omega
      rw [e] at h ⊢
      obtain ⟨g1, g2⟩ := rd_dec r (n * 10 + (c.toNat - 48)) (by omega) h
      refine ⟨g1, ?_⟩
      rw [g2, dec_big _ (by omega)]
      have e1 : (n * 10 + (c.toNat - 48)) / 10 = n := by omega
      have e2 : 48 + (n * 10 + (c.toNat - 48)) % 10 = c.toNat := by omega
      rw [e1, e2, UInt8.ofNat_toNat]
      simp

/-- A text of digits is its number's numeral where no needless nought stands ahead. -/
theorem rd_dec_yes (c : UInt8) (r : List UInt8) (hc : ¬ (c = 48 ∧ r ≠ [])) (h : rd 10 (c :: r) 0 ≠ -1) : 0 ≤ rd 10 (c :: r) 0 ∧ itoa (rd 10 (c :: r) 0) = c :: r := by
  have hd : ¬ (dig (c.toNat : Int) < 0 ∨ 10 ≤ dig (c.toNat : Int)) := fun hd => h (by rw [rd, if_pos hd])
  obtain ⟨h1, h2, h3⟩ := dig_bounds _ hd
  have e0 : rd 10 (c :: r) 0 = rd 10 r ((c.toNat - 48 : Nat) : Int) := by
    rw [rd, if_neg hd]; congr 1; omega
  by_cases h48 : c.toNat = 48
  · have hc48 : c = 48 := by apply UInt8.toNat_inj.1; rw [h48]; rfl
    have hr : r = [] := Classical.byContradiction fun hr => hc ⟨hc48, hr⟩
    subst hr hc48
    have e1 : rd 10 [48] 0 = 0 := by decide
    rw [e1]
    refine ⟨by omega, ?_⟩
    unfold itoa
    rw [if_neg (by omega), dec_small _ (by decide)]
    rfl
  · rw [e0] at h ⊢
    obtain ⟨g1, g2⟩ := rd_dec r (c.toNat - 48) (by omega) h
    refine ⟨g1, ?_⟩
    unfold itoa
    rw [if_neg (by omega), g2, dec_small _ (by omega), show 48 + (c.toNat - 48) = c.toNat by omega, UInt8.ofNat_toNat]
    rfl

theorem rd_dec_no (r : List UInt8) (v : Int) (hr : r ≠ []) (h0 : 0 ≤ v) : itoa v ≠ 48 :: r := by
  unfold itoa
  rw [if_neg (by omega)]
  intro h
  exact hr (dec_lead _ _ h)

/-- The digits that are still to come of u (none of 0). -/
def decP (u : Nat) : List UInt8 := if u = 0 then [] else decDigits u
theorem decP_zero : decP 0 = [] := rfl
theorem decP_pos (u : Nat) (h : 0 < u) : decP u = decDigits u := if_neg (by omega)
theorem decP_step (u : Nat) (h : 0 < u) : decP u = decP (u / 10) ++ [UInt8.ofNat (48 + u % 10)] := by
  rw [decP_pos u h]
  by_cases hu : u < 10
  · rw [dec_small u hu, show u / 10 = 0 by omega, decP_zero, show u % 10 = u by omega]; rfl
  · rw [dec_big u hu, decP_pos _ (by omega)]

theorem tens_piece : ∀ i : Fin 10, (ByteArray.mk #[48, 49, 50, 51, 52, 53, 54, 55, 56, 57]).extract i.val (i.val + 1) = ⟨[UInt8.ofNat (48 + i.val)].toArray⟩ := by decide +kernel
theorem piece_append (i : Nat) (h : i < 10) (L : List UInt8) : (ByteArray.mk #[48, 49, 50, 51, 52, 53, 54, 55, 56, 57]).extract i (i + 1) ++ ByteArray.mk L.toArray = ⟨(UInt8.ofNat (48 + i) :: L).toArray⟩ := by
  rw [tens_piece ⟨i, h⟩, ByteArray.mk_append_mk]; rfl
theorem minus_append (L : List UInt8) : ByteArray.mk #[45] ++ ByteArray.mk L.toArray = ⟨(45 :: L).toArray⟩ := ByteArray.mk_append_mk [45] L

end Go.Proofs.Ytffhjoldiicgdab
