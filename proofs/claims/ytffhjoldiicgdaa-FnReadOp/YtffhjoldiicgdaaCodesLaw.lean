/-
  The law FnCodes, walked over any program whose functions keep chapter 3's contracts.
-/
import Derived.Test.YtffhjoldiicgdaaOpLaws
import Derived.Test.YtffhjoldiicgdaaDrawAsm2
namespace Go.Proofs.Ytffhjoldiicgdaa
set_option linter.unusedVariables false
set_option linter.unusedSimpArgs false
open Go.RowKit

theorem bigCode_any (a : Option Addr) (len cap : Nat) (w : World) :
    Calls Try.prog 9 #[.slice a len cap] w fun e w' => e = .returned (.bool (decide ((1048576 : Int) < len))) ∧ w = w' := by
  go_enter Try.func9, Try.ntmps9
  go_wp2
  go_ret
  exact ⟨rfl, rfl⟩

end Go.Proofs.Ytffhjoldiicgdaa
