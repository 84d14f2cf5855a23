/-
  The laws of chapter 3, walked over any program whose functions keep these contracts.
-/
import Derived.Test.YtffhjoldiicgdaaOpD
import Derived.Test.YtffhjoldiicgdaaOpPlain
namespace Go.Proofs.Ytffhjoldiicgdaa
set_option linter.unusedVariables false
set_option linter.unusedSimpArgs false
open Go.RowKit

def ImplName : Prop := ∀ (b : Nat) (w : World), b < 256 → Calls Try.prog 22 #[.int .u8 b] w fun e w' => e = .returned (.string (opName b)) ∧ Below w.heap.size w w'

def ImplMode : Prop := ∀ (b : Nat) (w : World), b < 256 → Calls Try.prog 24 #[.int .u8 b] w fun e w' => e = .returned (.int .i64 (opMode b)) ∧ Below w.heap.size w w'

def ImplSize : Prop := ∀ (b : Nat) (w : World), b < 256 → Calls Try.prog 15 #[.int .u8 b] w fun e w' => e = .returned (.int .i64 (opSize b)) ∧ Below w.heap.size w w'

def ImplCode : Prop := ∀ (s : ByteArray) (m : Int) (w : World), Calls Try.prog 26 #[.string s, .int .i64 m] w fun e w' => e = .returned (.int .i64 (codeOf s m)) ∧ Below w.heap.size w w'

set_option maxRecDepth 100000 in
theorem walkName (HI : ImplName) (b : Nat) (hb : b < 256) (w : World) :
    Calls Try.prog 6 #[.int .u8 b] w fun e w' => e = .returned (.bool true) ∧ Below w.heap.size w w' := by
  go_enter Try.func6, Try.ntmps6
  go_wp2_with fail
  refine (specName_any b hb _).mono ?_
  rintro e w1 ⟨rfl, b1⟩
  go_wp2_with fail
  refine (HI b _ hb).mono ?_
  rintro e w2 ⟨rfl, b2⟩
  go_wp2
  go_ret
  exact ⟨rfl, b1.trans (b2.mono b1.size)⟩

set_option maxRecDepth 100000 in
theorem walkMode (HI : ImplMode) (b : Nat) (hb : b < 256) (w : World) :
    Calls Try.prog 7 #[.int .u8 b] w fun e w' => e = .returned (.bool true) ∧ Below w.heap.size w w' := by
  go_enter Try.func7, Try.ntmps7
  go_wp2_with fail
  refine (specMode_any b hb _).mono ?_
  rintro e w1 ⟨rfl, b1⟩
  go_wp2_with fail
  refine (HI b _ hb).mono ?_
  rintro e w2 ⟨rfl, b2⟩
  go_wp2
  go_ret
  exact ⟨rfl, b1.trans (b2.mono b1.size)⟩

set_option maxRecDepth 100000 in
theorem walkCode (HI : ImplCode) (s : ByteArray) (m : Int) (hs : s.size ≤ maxLen) (w : World) :
    Calls Try.prog 8 #[.string s, .int .i64 m] w fun e w' => e = .returned (.bool true) ∧ Below w.heap.size w w' := by
  unfold maxLen at hs
  by_cases hbig : (1048576 : Int) < s.size
  · go_enter Try.func8, Try.ntmps8
    go_wp2
    go_ret
    exact ⟨rfl, Below.refl _ _⟩
  · go_enter Try.func8, Try.ntmps8
    go_wp2_with fail
    refine (specCode_any s m _).mono ?_
    rintro e w1 ⟨rfl, b1⟩
    go_wp2_with fail
    refine (HI s m _).mono ?_
    rintro e w2 ⟨rfl, b2⟩
    go_wp2
    go_ret
    exact ⟨rfl, b1.trans (b2.mono b1.size)⟩

end Go.Proofs.Ytffhjoldiicgdaa
