/-
  Contracts over the program: chapter 2: what is compared, moved, tested and packed, of both programs; and the exact laws' own toFlags and eqFlags.
-/
import Derived.Test.YtppkcljpfjdlnaaAluA
namespace Go.Proofs.Ytppkcljpfjdlnaa
set_option linter.unusedVariables false
set_option linter.unusedSimpArgs false
open Go.RowKit

theorem pk_sum : ∀ n v brk d i z c : Bool, wrap64 (wrap64 (wrap64 (wrap64 (wrap64 (wrap64 (wrap64 (bI n 128 + bI v 64) + 32) + bI brk 16) + bI d 8) + bI i 4) + bI z 2) + bI c 1) % 256 = pkV n v brk d i z c := by
  decide +kernel

theorem tup_of {k : IntKind} {a b : Int} {p q : Bool} (h : a = b) (h' : p = q) : Ending.returned (.tuple #[.int k a, .bool p]) = .returned (.tuple #[.int k b, .bool q]) := by rw [h, h']

set_option maxRecDepth 100000 in
theorem specUnpackP_any (b : Int) (w : World) :
    Calls Try.prog 83 #[.int .u8 b] w fun e w' => e = .returned (.agg #[.bool (hasB b 128), .bool (hasB b 64), .bool (hasB b 8), .bool (hasB b 4), .bool (hasB b 2), .bool (hasB b 1)]) ∧ Below w.heap.size w w' := by
  go_enter Try.func83, Try.ntmps83
  go_wp2
  refine bodyPost_ret (v := (.agg #[.bool (hasB b 128), .bool (hasB b 64), .bool (hasB b 8), .bool (hasB b 4), .bool (hasB b 2), .bool (hasB b 1)])) (by simp [results, Try.results83, go_sem, hasB]) rfl ⟨rfl, ?_⟩
  exact (Below.refl _ _).alloc (Nat.le_refl _) _

theorem toFlags_any (n v d i z c : Bool) (w : World) :
    Calls Try.prog 65 #[.agg #[.bool n, .bool v, .bool d, .bool i, .bool z, .bool c]] w fun e w' => e = .returned (.agg #[.bool n, .bool v, .bool d, .bool i, .bool z, .bool c]) ∧ Below w.heap.size w w' := by
  go_enter Try.func65, Try.ntmps65
  go_wp2
  refine bodyPost_ret (v := .agg #[.bool n, .bool v, .bool d, .bool i, .bool z, .bool c]) (by simp [results, Try.results65, go_sem]) rfl ⟨rfl, ?_⟩
  exact (((Below.refl _ _).alloc (Nat.le_refl _) _).alloc (by simp) _).alloc (by simp; omega) _

theorem eqFlags_same (n v d i z c : Bool) (w : World) :
    Calls Try.prog 67 #[.agg #[.bool n, .bool v, .bool d, .bool i, .bool z, .bool c], .agg #[.bool n, .bool v, .bool d, .bool i, .bool z, .bool c]] w fun e w' => e = .returned (.bool true) ∧ Below w.heap.size w w' := by
  go_enter Try.func67, Try.ntmps67
  go_wp2
  go_ret
  exact ⟨rfl, ((Below.refl _ _).alloc (Nat.le_refl _) _).alloc (by simp) _⟩

end Go.Proofs.Ytppkcljpfjdlnaa
