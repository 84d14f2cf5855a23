/-
  Contracts over the program: chapter 2: sums and differences of the program itself.
-/
import Derived.Test.YtblchdmemhhcbaaAluA
namespace Go.Proofs.Ytblchdmemhhcbaa
set_option linter.unusedVariables false
set_option linter.unusedSimpArgs false
open Go.RowKit

end Go.Proofs.Ytblchdmemhhcbaa
