/-
  The laws of chapter 3, walked over any program whose functions keep these contracts.
-/
import Derived.Test.YtffhjoldiicgdabOpD
import Derived.Test.YtffhjoldiicgdabOpPlain
namespace Go.Proofs.Ytffhjoldiicgdab
set_option linter.unusedVariables false
set_option linter.unusedSimpArgs false
open Go.RowKit

def ImplSize : Prop := ∀ (b : Nat) (w : World), b < 256 → Calls Try.prog 9 #[.int .u8 b] w fun e w' => e = .returned (.int .i64 (opSize b)) ∧ Below w.heap.size w w'

def ImplCode : Prop := ∀ (s : ByteArray) (m : Int) (w : World), Calls Try.prog 38 #[.string s, .int .i64 m] w fun e w' => e = .returned (.int .i64 (codeOf s m)) ∧ Below w.heap.size w w'

set_option maxRecDepth 100000 in
theorem walkSize (HI : ImplSize) (b : Nat) (hb : b < 256) (w : World) :
    Calls Try.prog 3 #[.int .u8 b] w fun e w' => e = .returned (.bool true) ∧ Below w.heap.size w w' := by
  go_enter Try.func3, Try.ntmps3
  go_wp2_with fail
  refine (specSize_any b hb _).mono ?_
  rintro e w1 ⟨rfl, b1⟩
  go_wp2_with fail
  refine (HI b _ hb).mono ?_
  rintro e w2 ⟨rfl, b2⟩
  go_wp2
  go_ret
  exact ⟨rfl, b1.trans (b2.mono b1.size)⟩

end Go.Proofs.Ytffhjoldiicgdab
