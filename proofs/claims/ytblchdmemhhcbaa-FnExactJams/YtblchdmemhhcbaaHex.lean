/-
  Contracts over the program: spec.ReadHex and impl.ReadHex: both read the same number.
-/
import Derived.Test.YtblchdmemhhcbaaDig
namespace Go.Proofs.Ytblchdmemhhcbaa
set_option linter.unusedVariables false
set_option linter.unusedSimpArgs false
open Go.RowKit

/-- The number whose hexadecimal text of so many digits s is, -1 where there is none. -/
def rhex (s : ByteArray) (d : Int) : Int := if 1 ≤ d ∧ d ≤ 8 ∧ (s.size : Int) = d then rd 16 s.data.toList 0 else -1

theorem rhex_no (s : ByteArray) (d : Int) (h : ¬ (1 ≤ d ∧ d ≤ 8 ∧ (s.size : Int) = d)) : rhex s d = -1 := if_neg h
theorem rhex_yes (s : ByteArray) (d : Int) (h : 1 ≤ d ∧ d ≤ 8 ∧ (s.size : Int) = d) : rhex s d = rd 16 s.data.toList 0 := if_pos h

theorem dig_dec (c : Int) (h1 : 48 ≤ c) (h2 : c ≤ 57) : dig c = c - 48 := if_pos ⟨h1, h2⟩
theorem dig_let (c : Int) (h1 : 65 ≤ c) (h2 : c ≤ 70) : dig c = c - 55 := by
  unfold dig; rw [if_neg (by omega), if_pos ⟨h1, h2⟩]
theorem dig_no (c : Int) (h1 : ¬ (48 ≤ c ∧ c ≤ 57)) (h2 : ¬ (65 ≤ c ∧ c ≤ 70)) : dig c = -1 := by
  unfold dig; rw [if_neg h1, if_neg h2]

end Go.Proofs.Ytblchdmemhhcbaa
