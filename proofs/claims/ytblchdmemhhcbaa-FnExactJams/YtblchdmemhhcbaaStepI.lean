/-
  Contracts over the program: the model's operations on a byte of their own (l06Data at MImm).
-/
import Derived.Test.YtblchdmemhhcbaaStepH
namespace Go.Proofs.Ytblchdmemhhcbaa
set_option linter.unusedVariables false
set_option linter.unusedSimpArgs false
open Go.RowKit

end Go.Proofs.Ytblchdmemhhcbaa
