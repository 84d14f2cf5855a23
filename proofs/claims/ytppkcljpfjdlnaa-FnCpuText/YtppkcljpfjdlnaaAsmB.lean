/-
  Contracts over the program: the digits behind a text's first dollar sign (l04Digits), the model's.
-/
import Derived.Test.YtppkcljpfjdlnaaAsmA
import Derived.Test.YtppkcljpfjdlnaaHex
import Derived.Test.YtppkcljpfjdlnaaCut
namespace Go.Proofs.Ytppkcljpfjdlnaa
set_option linter.unusedVariables false
set_option linter.unusedSimpArgs false
open Go.RowKit

theorem takeWhile_at (p : UInt8 → Bool) : ∀ (l : List UInt8) (m : Nat), m ≤ l.length → (∀ j, j < m → p (l.getD j 0) = true) → (m = l.length ∨ p (l.getD m 0) = false) → l.takeWhile p = l.take m
  | [], m, _, _, _ => by simp
  | c :: r, 0, _, _, h => by
    rcases h with h | h
    · simp at h
    · have : p c = false := by simpa [List.getD] using h
      simp [List.takeWhile, this]
  | c :: r, m + 1, h1, h2, h3 => by
    have hc : p c = true := by simpa [List.getD] using h2 0 (by omega)
    have ih := takeWhile_at p r m (by simpa using h1) (fun j hj => by simpa [List.getD] using h2 (j + 1) (by omega)) (by
      rcases h3 with h | h
      · exact .inl (by simpa using h)
      · exact .inr (by simpa [List.getD] using h))
    simp [List.takeWhile, hc, ih]

theorem getD_drop (l : List UInt8) (n j : Nat) : (l.drop n).getD j 0 = l.getD (n + j) 0 := by simp [List.getD, List.getElem?_drop]

def noDol (c : UInt8) : Bool := c != 36
def isHx (c : UInt8) : Bool := decide (0 ≤ dig (c.toNat : Int))
/-- Where a text's first dollar sign stands. -/
def dolAt (l : List UInt8) : Nat := (l.takeWhile noDol).length
/-- The digits behind it. -/
def digitsL (l : List UInt8) : List UInt8 := (l.drop (dolAt l + 1)).takeWhile isHx

theorem dolAt_of (l : List UInt8) (k : Nat) (hk : k ≤ l.length) (h1 : ∀ j, j < k → noDol (l.getD j 0) = true) (h2 : k = l.length ∨ noDol (l.getD k 0) = false) : dolAt l = k := by
  unfold dolAt; rw [takeWhile_at noDol l k hk h1 h2]; simp [hk]

theorem noDol_iff (c : UInt8) : noDol c = ((c.toNat : Int) != 36) := by
  unfold noDol
  rw [Bool.eq_iff_iff]; simp
  constructor
  · intro h e; exact h (UInt8.toNat_inj.1 (show c.toNat = 36 by omega))
  · intro h e; rw [e] at h; exact h rfl

theorem rhex_one (s : ByteArray) (m : Nat) (h : m < s.size) : rhex (s.extract m (m + 1)) 1 = dig (s[m].toNat : Int) := by
  have hsz : (s.extract m (m + 1)).size = 1 := by rw [ByteArray.size_extract]; omega
  rw [rhex_yes _ _ ⟨by omega, by omega, by rw [hsz]; rfl⟩, extract_part, show m + 1 - m = 1 by omega]
  have hd := drop_cons s m h
  rw [hd]
  have hb := dig_le (s[m].toNat : Int)
  simp only [strOf, List.take_succ_cons, List.take_zero, rd]
  by_cases hneg : dig (s[m].toNat : Int) < 0
  · rw [if_pos (.inl hneg)]; omega
  · rw [if_neg (by omega)]; omega

end Go.Proofs.Ytppkcljpfjdlnaa
