/-
  Contracts over the program: the model's byte that is changed (l06Change), a flag that is set (l06Flag), a branch that is taken (l06Holds), the register that is stored (l06Reg).
-/
import Derived.Test.YtblchdmemhhcbaaStepA
namespace Go.Proofs.Ytblchdmemhhcbaa
set_option linter.unusedVariables false
set_option linter.unusedSimpArgs false
open Go.RowKit

theorem u8_of (x : Int) : IntKind.u8.wrap x = x % 256 := by simp [IntKind.wrap, IntKind.bits, IntKind.signed]

theorem u16_of (x : Int) : IntKind.u16.wrap x = x % 65536 := by simp [IntKind.wrap, IntKind.bits, IntKind.signed]

end Go.Proofs.Ytblchdmemhhcbaa
