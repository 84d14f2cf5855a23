/-
  Plain facts on digits and texts, without any Go: what reading digits in a base gives, and what the two programs' loops make of it.
-/
import Derived.Laws.RangeAny
namespace Go.Proofs.Ytblchdmemhhcbaa
set_option linter.unusedVariables false
set_option linter.unusedSimpArgs false

/-- The number of a digit's sign, -1 where it is none. -/
def dig (c : Int) : Int := if 48 ≤ c ∧ c ≤ 57 then c - 48 else if 65 ≤ c ∧ c ≤ 70 then c - 55 else -1

/-- Digits of a base read onto n; -1 where a sign is no digit of the base. -/
def rd (base : Int) : List UInt8 → Int → Int
  | [], n => n
  | c :: r, n => if dig (c.toNat : Int) < 0 ∨ base ≤ dig (c.toNat : Int) then -1 else rd base r (n * base + dig (c.toNat : Int))

theorem dig_le (c : Int) : -1 ≤ dig c ∧ dig c ≤ 15 := by
  unfold dig; split
  · omega
  · split <;> omega

theorem dig_high (c : Int) (h : 128 ≤ c) : dig c = -1 := by
  unfold dig; rw [if_neg (by omega), if_neg (by omega)]

theorem byte_lt (s : ByteArray) (k : Nat) (h : k < s.size) : (s[k].toNat : Int) < 256 := by
  have := s[k].toNat_lt; omega

theorem drop_cons (s : ByteArray) (k : Nat) (h : k < s.size) : s.data.toList.drop k = s[k] :: s.data.toList.drop (k + 1) := by
  rw [List.drop_eq_getElem_cons (by simpa using h)]; rfl

theorem drop_end (s : ByteArray) (k : Nat) (h : s.size ≤ k) : s.data.toList.drop k = [] :=
  List.drop_eq_nil_of_le (by simpa using h)

theorem rd_stop (base : Int) (s : ByteArray) (k : Nat) (n : Int) (h : k < s.size) (hd : dig (s[k].toNat : Int) < 0 ∨ base ≤ dig (s[k].toNat : Int)) : rd base (s.data.toList.drop k) n = -1 := by
  rw [drop_cons s k h, rd, if_pos hd]

theorem rd_go (base : Int) (s : ByteArray) (k : Nat) (n : Int) (h : k < s.size) (h1 : 0 ≤ dig (s[k].toNat : Int)) (h2 : dig (s[k].toNat : Int) < base) : rd base (s.data.toList.drop k) n = rd base (s.data.toList.drop (k + 1)) (n * base + dig (s[k].toNat : Int)) := by
  rw [drop_cons s k h, rd, if_neg (by omega)]

theorem rd_end (base : Int) (s : ByteArray) (k : Nat) (n : Int) (h : s.size ≤ k) : rd base (s.data.toList.drop k) n = n := by
  rw [drop_end s k h, rd]

/-- n is below 16 to the k-th; so is what one digit more makes of it. -/
theorem pow_step (base n d : Int) (k : Nat) (h0 : 0 ≤ n) (h1 : n < 16 ^ k) (hb : base ≤ 16) (h3 : d < 16) : n * base + d < 16 ^ (k + 1) := by
  have h4 : n * base ≤ n * 16 := Int.mul_le_mul_of_nonneg_left hb h0
  rw [Int.pow_succ]
  omega

theorem pow_le16 (k : Nat) (hk : k ≤ 9) : (16 : Int) ^ k ≤ 68719476736 := by
  have h2 : 16 ^ k ≤ 16 ^ 9 := Nat.pow_le_pow_right (by decide) hk
  have h3 : ((16 ^ k : Nat) : Int) ≤ ((16 ^ 9 : Nat) : Int) := Int.ofNat_le.2 h2
  simpa using h3

end Go.Proofs.Ytblchdmemhhcbaa
