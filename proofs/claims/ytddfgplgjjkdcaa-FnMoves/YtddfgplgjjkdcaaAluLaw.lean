/-
  Plain facts for chapter 2's laws, without any Go program: what is moved is moved back, and numbers of two decimal digits add and are taken from one another decimally.
-/
import Derived.Test.YtddfgplgjjkdcaaAluNum
namespace Go.Proofs.Ytddfgplgjjkdcaa

theorem rol_ror (b : Int) (c : Bool) (h0 : 0 ≤ b) (h1 : b ≤ 255) : mvR (mvR b true c) false (mvC b true) = b ∧ mvC (mvR b true c) false = c := by
  have hb : mvC b true = decide (128 ≤ b) := rfl
  rw [hb]
  by_cases h : 128 ≤ b
  · rw [decide_eq_true h]
    cases c
    · simp only [mvR, mvC, bI, if_true, if_false, Bool.false_eq_true]; refine ⟨by omega, ?_⟩; rw [beq_eq_false_iff_ne]; omega
    · simp only [mvR, mvC, bI, if_true, if_false, Bool.false_eq_true]; refine ⟨by omega, ?_⟩; rw [beq_iff_eq]; omega
  · rw [decide_eq_false h]
    cases c
    · simp only [mvR, mvC, bI, if_true, if_false, Bool.false_eq_true]; refine ⟨by omega, ?_⟩; rw [beq_eq_false_iff_ne]; omega
    · simp only [mvR, mvC, bI, if_true, if_false, Bool.false_eq_true]; refine ⟨by omega, ?_⟩; rw [beq_iff_eq]; omega

theorem ror_rol (b : Int) (c : Bool) (h0 : 0 ≤ b) (h1 : b ≤ 255) : mvR (mvR b false c) true (mvC b false) = b ∧ mvC (mvR b false c) true = c := by
  have hb : mvC b false = (b % 2 == 1) := rfl
  rw [hb]
  by_cases h : b % 2 = 1
  · rw [beq_iff_eq.2 h]
    cases c
    · simp only [mvR, mvC, bit7, bI, if_true, if_false, Bool.false_eq_true]; refine ⟨by omega, ?_⟩; rw [decide_eq_false_iff_not]; omega
    · simp only [mvR, mvC, bit7, bI, if_true, if_false, Bool.false_eq_true]; refine ⟨by omega, ?_⟩; rw [decide_eq_true_iff]; omega
  · rw [beq_eq_false_iff_ne.2 h]
    cases c
    · simp only [mvR, mvC, bit7, bI, if_true, if_false, Bool.false_eq_true]; refine ⟨by omega, ?_⟩; rw [decide_eq_false_iff_not]; omega
    · simp only [mvR, mvC, bit7, bI, if_true, if_false, Bool.false_eq_true]; refine ⟨by omega, ?_⟩; rw [decide_eq_true_iff]; omega

theorem dec_up (T r : Int) (h0 : 0 ≤ T) (h1 : T ≤ 19) (h2 : 0 ≤ r) (h3 : r ≤ 9) :
    (if 160 ≤ 16 * T + r then 16 * T + r + 96 else 16 * T + r) % 256 = (10 * T + r) % 100 / 10 * 16 + (10 * T + r) % 10 ∧ (255 < (if 160 ≤ 16 * T + r then 16 * T + r + 96 else 16 * T + r) ↔ 100 ≤ 10 * T + r) := by
  have e3 : (10 * T + r) % 10 = r := by omega
  rw [e3]
  by_cases h : 10 ≤ T
  · rw [if_pos (by omega)]
    have e1 : (10 * T + r) % 100 = 10 * (T - 10) + r := by omega
    have e2 : (10 * (T - 10) + r) / 10 = T - 10 := by omega
    rw [e1, e2]
    omega
  · rw [if_neg (by omega)]
    have e1 : (10 * T + r) % 100 = 10 * T + r := by omega
    have e2 : (10 * T + r) / 10 = T := by omega
    rw [e1, e2]
    omega

/-- Two numbers of two decimal digits add decimally. -/
theorem dec_add (x y : Int) (c : Bool) (hx0 : 0 ≤ x) (hx1 : x ≤ 99) (hy0 : 0 ≤ y) (hy1 : y ≤ 99) :
    dcT (x / 10 * 16 + x % 10) (y / 10 * 16 + y % 10) c % 256 = (x + y + bI c 1) % 100 / 10 * 16 + (x + y + bI c 1) % 10 ∧ (255 < dcT (x / 10 * 16 + x % 10) (y / 10 * 16 + y % 10) c ↔ 100 ≤ x + y + bI c 1) := by
  obtain ⟨c0, c1⟩ := bI_bd c 1 (by decide)
  unfold dcT dcH dcL dcS
  generalize bI c 1 = ci at *
  have m1 : (x / 10 * 16 + x % 10) % 16 = x % 10 := by omega
  have m2 : (y / 10 * 16 + y % 10) % 16 = y % 10 := by omega
  rw [m1, m2]
  clear m1 m2
  by_cases h : 10 ≤ x % 10 + y % 10 + ci
  · rw [if_pos h]
    have e1 : x / 10 * 16 + x % 10 - x % 10 + (y / 10 * 16 + y % 10 - y % 10) + ((x % 10 + y % 10 + ci + 6) % 16 + 16) = 16 * (x / 10 + y / 10 + 1) + (x % 10 + y % 10 + ci - 10) := by omega
    have e2 : x + y + ci = 10 * (x / 10 + y / 10 + 1) + (x % 10 + y % 10 + ci - 10) := by omega
    rw [e1, e2]
    exact dec_up _ _ (by omega) (by omega) (by omega) (by omega)
  · rw [if_neg h]
    have e1 : x / 10 * 16 + x % 10 - x % 10 + (y / 10 * 16 + y % 10 - y % 10) + (x % 10 + y % 10 + ci) = 16 * (x / 10 + y / 10) + (x % 10 + y % 10 + ci) := by omega
    have e2 : x + y + ci = 10 * (x / 10 + y / 10) + (x % 10 + y % 10 + ci) := by omega
    rw [e1, e2]
    exact dec_up _ _ (by omega) (by omega) (by omega) (by omega)

theorem dec_down (T r : Int) (h0 : -10 ≤ T) (h1 : T ≤ 9) (h2 : 0 ≤ r) (h3 : r ≤ 9) :
    (if 16 * T + r < 0 then 16 * T + r - 96 else 16 * T + r) % 256 = (10 * T + r + 100) % 100 / 10 * 16 + (10 * T + r + 100) % 100 % 10 := by
  by_cases h : T < 0
  · rw [if_pos (by omega)]
    have e1 : (10 * T + r + 100) % 100 = 10 * (T + 10) + r := by omega
    have e2 : (10 * (T + 10) + r) / 10 = T + 10 := by omega
    have e3 : (10 * (T + 10) + r) % 10 = r := by omega
    rw [e1, e2, e3]
    omega
  · rw [if_neg (by omega)]
    have e1 : (10 * T + r + 100) % 100 = 10 * T + r := by omega
    have e2 : (10 * T + r) / 10 = T := by omega
    have e3 : (10 * T + r) % 10 = r := by omega
    rw [e1, e2, e3]
    omega

/-- .. and are taken from one another. -/
theorem dec_sub (x y : Int) (hx0 : 0 ≤ x) (hx1 : x ≤ 99) (hy0 : 0 ≤ y) (hy1 : y ≤ 99) :
    sbT (x / 10 * 16 + x % 10) (y / 10 * 16 + y % 10) true % 256 = (x - y + 100) % 100 / 10 * 16 + (x - y + 100) % 100 % 10 ∧ plC (x / 10 * 16 + x % 10) (255 - (y / 10 * 16 + y % 10)) true = decide (y ≤ x) := by
  constructor
  · unfold sbT sbH sbL sbS
    generalize hci : bI true 1 = ci
    have hc1 : ci = 1 := hci.symm
    clear hci
    have m1 : (x / 10 * 16 + x % 10) % 16 = x % 10 := by omega
    have m2 : (y / 10 * 16 + y % 10) % 16 = y % 10 := by omega
    rw [m1, m2]
    clear m1 m2
    by_cases h : x % 10 - y % 10 - 1 + ci < 0
    · rw [if_pos h]
      have e1 : x / 10 * 16 + x % 10 - x % 10 - (y / 10 * 16 + y % 10 - y % 10) + ((x % 10 - y % 10 - 1 + ci - 6) % 16 - 16) = 16 * (x / 10 - y / 10 - 1) + (x % 10 - y % 10 + 10) := by omega
      have e2 : x - y + 100 = 10 * (x / 10 - y / 10 - 1) + (x % 10 - y % 10 + 10) + 100 := by omega
      rw [e1, e2]
      exact dec_down _ _ (by omega) (by omega) (by omega) (by omega)
    · rw [if_neg h]
      have e1 : x / 10 * 16 + x % 10 - x % 10 - (y / 10 * 16 + y % 10 - y % 10) + (x % 10 - y % 10 - 1 + ci) = 16 * (x / 10 - y / 10) + (x % 10 - y % 10) := by omega
      have e2 : x - y + 100 = 10 * (x / 10 - y / 10) + (x % 10 - y % 10) + 100 := by omega
      rw [e1, e2]
      exact dec_down _ _ (by omega) (by omega) (by omega) (by omega)
  · unfold plC plS
    rw [bI_true, Bool.eq_iff_iff, decide_eq_true_iff, decide_eq_true_iff]
    omega

end Go.Proofs.Ytddfgplgjjkdcaa
