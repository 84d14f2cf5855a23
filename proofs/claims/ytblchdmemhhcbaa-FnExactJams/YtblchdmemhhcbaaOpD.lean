/-
  Contracts over the program: the byte of a name and a mode (CodeOf), the model's.
-/
import Derived.Test.YtblchdmemhhcbaaOpC
namespace Go.Proofs.Ytblchdmemhhcbaa
set_option linter.unusedVariables false
set_option linter.unusedSimpArgs false
open Go.RowKit

/-- Does byte i bear that name and mode? -/
def hasOp (s : ByteArray) (m : Int) (i : Nat) : Bool := ((opName i).toList == s.toList) && (opMode i == m)

def codeFrom (s : ByteArray) (m : Int) : Nat → Nat → Int
  | 0, _ => -1
  | n + 1, i => if hasOp s m i then (i : Int) else codeFrom s m n (i + 1)

def codeOf (s : ByteArray) (m : Int) : Int := if s.toList.isEmpty then -1 else codeFrom s m 256 0

theorem codeFrom_hit {s : ByteArray} {m : Int} {j : Nat} (hj : j < 256) (h : hasOp s m j = true) : codeFrom s m (256 - j) j = j := by
  obtain ⟨n, hn⟩ : ∃ n, 256 - j = n + 1 := ⟨255 - j, by omega⟩
  rw [hn, codeFrom, if_pos h]

theorem codeFrom_miss {s : ByteArray} {m : Int} {j : Nat} (hj : j < 256) (h : hasOp s m j = false) : codeFrom s m (256 - j) j = codeFrom s m (256 - (j + 1)) (j + 1) := by
  obtain ⟨n, hn⟩ : ∃ n, 256 - j = n + 1 := ⟨255 - j, by omega⟩
  have hn2 : 256 - (j + 1) = n := by omega
  rw [hn, hn2, codeFrom, if_neg (by simp [h])]

end Go.Proofs.Ytblchdmemhhcbaa
