/-
  The laws of chapter 3, walked over any program whose functions keep these contracts.
-/
import Derived.Test.YtblchdmemhhcbaaOpD
import Derived.Test.YtblchdmemhhcbaaOpPlain
namespace Go.Proofs.Ytblchdmemhhcbaa
set_option linter.unusedVariables false
set_option linter.unusedSimpArgs false
open Go.RowKit

end Go.Proofs.Ytblchdmemhhcbaa
