/-
  The law FnCodes, walked over any program whose functions keep chapter 3's contracts.
-/
import Derived.Test.YtblchdmemhhcbaaGreatQSOpC
import Derived.Test.YtblchdmemhhcbaaGreatQPDrawAsm2
namespace Go.Proofs.YtblchdmemhhcbaaGreat
set_option linter.unusedVariables false
set_option linter.unusedSimpArgs false
open Go.RowKit

theorem bigCode_any (a : Option Addr) (len cap : Nat) (w : World) :
    Calls Tryz.prog 8 #[.slice a len cap] w fun e w' => e = .returned (.bool (decide ((1048576 : Int) < len))) ∧ w = w' := by
  go_enter Tryz.func8, Tryz.ntmps8
  go_wp2
  go_ret
  exact ⟨rfl, rfl⟩

end Go.Proofs.YtblchdmemhhcbaaGreat
