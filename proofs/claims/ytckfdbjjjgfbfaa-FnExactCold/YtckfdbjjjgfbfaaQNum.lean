/-
  Plain facts on digits and texts, without any Go: what reading digits in a base gives, and what the two programs' loops make of it.
-/
import Derived.Laws.RangeAny
namespace Go.Proofs.Ytckfdbjjjgfbfaa
set_option linter.unusedVariables false
set_option linter.unusedSimpArgs false

/-- The number of a digit's sign, -1 where it is none. -/
def dig (c : Int) : Int := if 48 ≤ c ∧ c ≤ 57 then c - 48 else if 65 ≤ c ∧ c ≤ 70 then c - 55 else -1

/-- Digits of a base read onto n; -1 where a sign is no digit of the base. -/
def rd (base : Int) : List UInt8 → Int → Int
  | [], n => n
  | c :: r, n => if dig (c.toNat : Int) < 0 ∨ base ≤ dig (c.toNat : Int) then -1 else rd base r (n * base + dig (c.toNat : Int))

end Go.Proofs.Ytckfdbjjjgfbfaa
