/-
  Contracts over the program: chapter 2: differences of both programs.
-/
import Derived.Test.YtblchdmemhhcbaaAluB
import Derived.Test.YtblchdmemhhcbaaAluC
import Derived.Deep.RegionWith
namespace Go.Proofs.Ytblchdmemhhcbaa
set_option linter.unusedVariables false
set_option linter.unusedSimpArgs false
open Go.RowKit

end Go.Proofs.Ytblchdmemhhcbaa
