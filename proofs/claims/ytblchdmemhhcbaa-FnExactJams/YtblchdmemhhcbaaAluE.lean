/-
  Contracts over the program: chapter 2: what is compared, moved, tested and packed, of both programs; and the exact laws' own toFlags and eqFlags.
-/
import Derived.Test.YtblchdmemhhcbaaAluA
namespace Go.Proofs.Ytblchdmemhhcbaa
set_option linter.unusedVariables false
set_option linter.unusedSimpArgs false
open Go.RowKit

theorem pk_sum : ∀ n v brk d i z c : Bool, wrap64 (wrap64 (wrap64 (wrap64 (wrap64 (wrap64 (wrap64 (bI n 128 + bI v 64) + 32) + bI brk 16) + bI d 8) + bI i 4) + bI z 2) + bI c 1) % 256 = pkV n v brk d i z c := by
  decide +kernel

theorem tup_of {k : IntKind} {a b : Int} {p q : Bool} (h : a = b) (h' : p = q) : Ending.returned (.tuple #[.int k a, .bool p]) = .returned (.tuple #[.int k b, .bool q]) := by rw [h, h']

theorem specPackP_any (n v d i z c brk : Bool) (w : World) :
    Calls Try.prog 40 #[.agg #[.bool n, .bool v, .bool d, .bool i, .bool z, .bool c], .bool brk] w fun e w' => e = .returned (.int .u8 (pkV n v brk d i z c)) ∧ Below w.heap.size w w' := by
  go_enter Try.func40, Try.ntmps40
  go_wp2_with fail
  go_quiet ((go_at_call 53; exact Calls.quiet_of_same ((l02Bit_any _ _ _).mono fun _ _ h => ⟨h.1, h.2.symm⟩)))
  go_wp2
  go_ret
  exact ⟨ret_intA (pk_sum n v brk d i z c), below_drewN ((Below.refl _ _).alloc (Nat.le_refl _) _) _⟩

theorem implPackP_any (n v d i z c brk : Bool) (w : World) :
    Calls Try.prog 58 #[.agg #[.bool n, .bool v, .bool d, .bool i, .bool z, .bool c], .bool brk] w fun e w' => e = .returned (.int .u8 (pkV n v brk d i z c)) ∧ Below w.heap.size w w' := by
  go_enter Try.func58, Try.ntmps58
  go_wp2_with fail
  go_quiet ((go_at_call 70; exact Calls.quiet_of_same ((bitWhere_any _ _ _).mono fun _ _ h => ⟨h.1, h.2.symm⟩)))
  go_wp2
  go_ret
  exact ⟨ret_intA (pk_or n v brk d i z c), below_drewN ((Below.refl _ _).alloc (Nat.le_refl _) _) _⟩

theorem toFlags_any (n v d i z c : Bool) (w : World) :
    Calls Try.prog 23 #[.agg #[.bool n, .bool v, .bool d, .bool i, .bool z, .bool c]] w fun e w' => e = .returned (.agg #[.bool n, .bool v, .bool d, .bool i, .bool z, .bool c]) ∧ Below w.heap.size w w' := by
  go_enter Try.func23, Try.ntmps23
  go_wp2
  refine bodyPost_ret (v := .agg #[.bool n, .bool v, .bool d, .bool i, .bool z, .bool c]) (by simp [results, Try.results23, go_sem]) rfl ⟨rfl, ?_⟩
  exact (((Below.refl _ _).alloc (Nat.le_refl _) _).alloc (by simp) _).alloc (by simp; omega) _

theorem eqFlags_same (n v d i z c : Bool) (w : World) :
    Calls Try.prog 28 #[.agg #[.bool n, .bool v, .bool d, .bool i, .bool z, .bool c], .agg #[.bool n, .bool v, .bool d, .bool i, .bool z, .bool c]] w fun e w' => e = .returned (.bool true) ∧ Below w.heap.size w w' := by
  go_enter Try.func28, Try.ntmps28
  go_wp2
  go_ret
  exact ⟨rfl, ((Below.refl _ _).alloc (Nat.le_refl _) _).alloc (by simp) _⟩

end Go.Proofs.Ytblchdmemhhcbaa
