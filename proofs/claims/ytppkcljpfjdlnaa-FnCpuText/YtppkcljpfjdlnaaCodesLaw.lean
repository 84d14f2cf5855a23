/-
  The law FnCodes, walked over any program whose functions keep chapter 3's contracts.
-/
import Derived.Test.YtppkcljpfjdlnaaOpLaws
import Derived.Test.YtppkcljpfjdlnaaDrawAsm2
namespace Go.Proofs.Ytppkcljpfjdlnaa
set_option linter.unusedVariables false
set_option linter.unusedSimpArgs false
open Go.RowKit

theorem bigCode_any (a : Option Addr) (len cap : Nat) (w : World) :
    Calls Try.prog 14 #[.slice a len cap] w fun e w' => e = .returned (.bool (decide ((1048576 : Int) < len))) ∧ w = w' := by
  go_enter Try.func14, Try.ntmps14
  go_wp2
  go_ret
  exact ⟨rfl, rfl⟩

end Go.Proofs.Ytppkcljpfjdlnaa
