/-
  Contracts over the program: chapter 2: sums and differences, with D and without, of both programs.
-/
import Derived.Test.YtddfgplgjjkdcaaAluA
namespace Go.Proofs.Ytddfgplgjjkdcaa
open Go.RowKit

end Go.Proofs.Ytddfgplgjjkdcaa
