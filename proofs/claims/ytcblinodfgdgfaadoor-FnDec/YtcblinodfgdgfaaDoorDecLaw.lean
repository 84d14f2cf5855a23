/-
  Plain facts, without any Go: digits that were written are read again as the number.
-/
import Derived.Test.YtcblinodfgdgfaaDoorReadDec
import Derived.Test.YtcblinodfgdgfaaDoorHexNum
import Derived.Laws.BitsAllLaws
import Derived.Laws.BitsLemmas
namespace Go.Proofs.YtcblinodfgdgfaaDoor
open Go.Lib (decDigits itoa nDigits)

theorem rd_join (base : Int) (r : List UInt8) : ∀ (l : List UInt8) (a : Int), (∀ c ∈ l, 0 ≤ dig (c.toNat : Int) ∧ dig (c.toNat : Int) < base) → rd base (l ++ r) a = rd base r (rd base l a)
  | [], _, _ => rfl
  | c :: t, a, h => by
    have hc := h c (by simp)
    rw [List.cons_append, rd, if_neg (by omega), rd, if_neg (by omega), rd_join base r t _ (fun d hd => h d (by simp [hd]))]

theorem dig_hexD : ∀ i : Fin 16, dig ((hexD i.val).toNat : Int) = i.val := by decide +kernel

theorem hexL_digits : ∀ (k n : Nat), ∀ c ∈ hexL k n, 0 ≤ dig (c.toNat : Int) ∧ dig (c.toNat : Int) < 16
  | 0, _, c, h => by simp [hexL] at h
  | k + 1, n, c, h => by
    rw [hexL, List.mem_append] at h
    rcases h with h | h
    · exact hexL_digits k _ c h
    · simp at h
      subst h
      have := dig_hexD ⟨n % 16, Nat.mod_lt _ (by decide)⟩
      simp only at this
      rw [this]
      omega

theorem rd_hex : ∀ (k n : Nat), rd 16 (hexL k n) 0 = ((n % 16 ^ k : Nat) : Int)
  | 0, n => by simp [hexL, rd, Nat.mod_one]
  | k + 1, n => by
    rw [hexL, rd_join 16 _ _ _ (hexL_digits k _), rd_hex k (n / 16)]
    have e := dig_hexD ⟨n % 16, Nat.mod_lt _ (by decide)⟩
    simp only at e
    rw [rd, e, if_neg (by omega), rd]
    have hm : n % 16 ^ (k + 1) = n % 16 + 16 * (n / 16 % 16 ^ k) := by
      rw [Nat.pow_succ, Nat.mul_comm, Nat.mod_mul]
    rw [hm]
    push_cast
    omega

theorem dec_digit (u : Nat) (h : u < 10) : dig ((UInt8.ofNat (48 + u)).toNat : Int) = u := by
  rw [UInt8.toNat_ofNat', Nat.mod_eq_of_lt (by omega)]
  unfold dig
  rw [if_pos (by omega)]
  omega

theorem dec_digits (u : Nat) : ∀ c ∈ decDigits u, 0 ≤ dig (c.toNat : Int) ∧ dig (c.toNat : Int) < 10 := by
  induction u using Nat.strongRecOn with
  | _ u ih =>
    intro c hc
    by_cases hu : u < 10
    · rw [dec_small u hu] at hc
      simp at hc
      subst hc
      have := dec_digit u hu
      simp only [UInt8.ofNat_add] at this
      simp only [UInt8.reduceOfNat] at this
      rw [this]; omega
    · rw [dec_big u hu, List.mem_append] at hc
      rcases hc with hc | hc
      · exact ih (u / 10) (by omega) c hc
      · have hc' : c = UInt8.ofNat (48 + u % 10) := by simpa using hc
        subst hc'
        rw [dec_digit _ (by omega)]; omega

theorem rd_decDigits (u : Nat) : rd 10 (decDigits u) 0 = u := by
  induction u using Nat.strongRecOn with
  | _ u ih =>
    by_cases hu : u < 10
    · rw [dec_small u hu, rd, dec_digit u hu, if_neg (by omega), rd]; omega
    · rw [dec_big u hu, rd_join 10 _ _ _ (dec_digits _), ih (u / 10) (by omega), rd, dec_digit _ (by omega), if_neg (by omega), rd]
      omega

theorem nDig_le (k : Nat) : ∀ u : Nat, u < 10 ^ (k + 1) → nDigits u ≤ k + 1 := by
  induction k with
  | zero => intro u hu; rw [Lib.nDigits_small (by simpa using hu)]; omega
  | succ k ih =>
    intro u hu
    by_cases hs : u < 10
    · rw [Lib.nDigits_small hs]; omega
    · rw [Lib.nDigits_big hs]
      have := ih (u / 10) (by rw [Nat.pow_succ] at hu; omega)
      omega

theorem rdec_itoa_in (N : Int) (h0 : 0 ≤ N) (h1 : N ≤ 999999999) : rdec (itoa N) = N := by
  obtain ⟨u, rfl⟩ := Int.eq_ofNat_of_zero_le h0
  have e : itoa (u : Int) = decDigits u := by unfold itoa; rw [if_neg (by omega)]; rfl
  rw [e, rdec_yes _ (dec_ne_nil u) ?_ ?_, rd_decDigits]
  · rw [Lib.decDigits_length]
    have e9 : (10 : Nat) ^ (8 + 1) = 1000000000 := by decide
    exact nDig_le 8 u (by omega)
  · rintro ⟨ha, hb⟩
    cases hd : decDigits u with
    | nil => exact absurd hd (dec_ne_nil u)
    | cons c r =>
      rw [hd] at ha hb
      have hc : c = 48 := by simpa using ha
      subst hc
      have := dec_lead u r hd
      subst this
      simp at hb

theorem rdec_itoa_out (N : Int) (h : N < 0 ∨ 999999999 < N) : rdec (itoa N) = -1 := by
  by_cases h0 : N < 0
  · apply rdec_stop
    unfold itoa
    rw [if_pos h0, rd, if_pos (by decide)]
  · obtain ⟨u, rfl⟩ := Int.eq_ofNat_of_zero_le (show 0 ≤ N by omega)
    have e : itoa (u : Int) = decDigits u := by unfold itoa; rw [if_neg (by omega)]; rfl
    rw [e]
    apply rdec_no
    refine .inr (.inl ?_)
    rw [Lib.decDigits_length]
    refine Nat.lt_of_not_le fun hn => ?_
    have h1 := Lib.lt_pow_nDigits u
    have h2 : 10 ^ nDigits u ≤ 10 ^ 9 := Nat.pow_le_pow_right (by decide) hn
    omega

theorem itoa_size (N : Int) (h0 : -9223372036854775808 ≤ N) (h1 : N ≤ 9223372036854775807) : (ByteArray.mk (itoa N).toArray).size ≤ maxLen := by
  have := Lib.itoa_length_le N h0 h1
  show (itoa N).toArray.size ≤ _
  simp [maxLen]; omega

theorem ofInt_i64 (a : Nat) (ha : a < 9223372036854775808) : (BitVec.ofInt 64 (a : Int)).toNat = a := by
  rw [BitVec.ofInt_natCast, BitVec.toNat_ofNat]; exact Nat.mod_eq_of_lt (by omega)
theorem and_mask (a k : Nat) (ha : a < 9223372036854775808) (hk : k < 63) : bits .and .i64 (a : Int) ((2 ^ k - 1 : Nat) : Int) = ((a % 2 ^ k : Nat) : Int) := by
  have hp : 2 ^ k ≤ 2 ^ 62 := Nat.pow_le_pow_right (by decide) (by omega)
  have h62 : (2 : Nat) ^ 62 = 4611686018427387904 := by decide
  have hx : a % 2 ^ k < 2 ^ k := Nat.mod_lt _ (Nat.two_pow_pos k)
  show IntKind.i64.wrap ((BitVec.ofInt 64 (a : Int) &&& BitVec.ofInt 64 ((2 ^ k - 1 : Nat) : Int)).toNat : Int) = _
  rw [BitVec.toNat_and, ofInt_i64 a ha, ofInt_i64 _ (by omega), Nat.and_two_pow_sub_one_eq_mod, IntKind.wrap_i64]
  generalize 2 ^ k = m at *
  omega

/-- What HexText writes is read again as the number's lowest digits. -/
theorem rhex_hexT (M d : Nat) (h1 : 1 ≤ d) (h8 : d ≤ 8) : rhex ⟨(hexL d M).toArray⟩ d = ((M % 16 ^ d : Nat) : Int) := by
  have hs : (ByteArray.mk (hexL d M).toArray).size = d := by
    show (hexL d M).toArray.size = d
    simp [hexL_length]
  rw [rhex_yes _ _ ⟨by omega, by omega, by rw [hs]⟩]
  exact rd_hex d M

theorem hex_size (n d : Int) : (ByteArray.mk (hexT n d).toArray).size ≤ maxLen := by
  show (hexT n d).toArray.size ≤ _
  have : (hexT n d).length ≤ 8 := by
    unfold hexT
    split
    · simp
    · rw [hexL_length]; omega
  simp [maxLen]; omega

end Go.Proofs.YtcblinodfgdgfaaDoor
