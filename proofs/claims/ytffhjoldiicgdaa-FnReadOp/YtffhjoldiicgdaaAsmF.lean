/-
  Contracts over the program: the bytes of a text's lines (Assemble), the model's.
-/
import Derived.Test.YtffhjoldiicgdaaAsmE
namespace Go.Proofs.Ytffhjoldiicgdaa
set_option linter.unusedVariables false
set_option linter.unusedSimpArgs false
open Go.RowKit

end Go.Proofs.Ytffhjoldiicgdaa
