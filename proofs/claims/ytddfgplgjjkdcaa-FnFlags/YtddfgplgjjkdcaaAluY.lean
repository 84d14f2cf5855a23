/-
  Contracts over the program that tell the very world behind a call: UnpackP of a flags' byte, and the model's PackP.
-/
import Derived.Test.YtddfgplgjjkdcaaAluX
import Derived.Test.YtddfgplgjjkdcaaKeep
namespace Go.Proofs.Ytddfgplgjjkdcaa
open Go.RowKit

/-- The flags of a byte's bits. -/
def UnP (b : Int) (n v d i z c : Bool) : Prop := hasB b 128 = n ∧ hasB b 64 = v ∧ hasB b 8 = d ∧ hasB b 4 = i ∧ hasB b 2 = z ∧ hasB b 1 = c

theorem pk_un1 : ∀ n v brk d i z c : Bool, UnP (pkV n v brk d i z c) n v d i z c := by
  unfold UnP
  decide +kernel

theorem pk_un2 : ∀ n v brk d i z c : Bool, UnP (bits .xor .u8 (pkV n v brk d i z c) 48) n v d i z c := by
  unfold UnP
  decide +kernel

theorem implUnpackP_pk (b : Int) (n v d i z c : Bool) (h : UnP b n v d i z c) (w : World) :
    Calls Try.prog 23 #[.int .u8 b] w fun e w' => e = .returned (.agg #[.bool n, .bool v, .bool d, .bool i, .bool z, .bool c]) ∧ w.alloc (.cells #[.bool n, .bool v, .bool d, .bool i, .bool z, .bool c] 25) = w' := by
  obtain ⟨h0, h1, h2, h3, h4, h5⟩ := h
  have := implUnpackP_exact b w
  rw [h0, h1, h2, h3, h4, h5] at this
  exact this

theorem specPackP_exact (n v d i z c brk : Bool) (w : World) :
    Calls Try.prog 24 #[.agg #[.bool n, .bool v, .bool d, .bool i, .bool z, .bool c], .bool brk] w fun e w' => e = .returned (.int .u8 (pkV n v brk d i z c)) ∧ ∃ k, (w.alloc (.cells #[.bool n, .bool v, .bool d, .bool i, .bool z, .bool c] 25)).drewN k = w' := by
  go_enter Try.func24, Try.ntmps24
  go_wp2_with fail
  go_quiet ((go_at_call 38; exact Calls.quiet_of_same ((l02Bit_any _ _ _).mono fun _ _ h => ⟨h.1, h.2.symm⟩)))
  go_wp2
  go_ret
  exact ⟨ret_int (pk_sum n v brk d i z c), _, rfl⟩

theorem six_drewN {w : World} {B : Nat} {a0 a1 a2 a3 a4 a5 : Value} (m : Nat) (h : w.cell? ⟨B, 0, none⟩ = some a0 ∧ w.cell? ⟨B, 1, none⟩ = some a1 ∧ w.cell? ⟨B, 2, none⟩ = some a2 ∧ w.cell? ⟨B, 3, none⟩ = some a3 ∧ w.cell? ⟨B, 4, none⟩ = some a4 ∧ w.cell? ⟨B, 5, none⟩ = some a5) : (w.drewN m).cell? ⟨B, 0, none⟩ = some a0 ∧ (w.drewN m).cell? ⟨B, 1, none⟩ = some a1 ∧ (w.drewN m).cell? ⟨B, 2, none⟩ = some a2 ∧ (w.drewN m).cell? ⟨B, 3, none⟩ = some a3 ∧ (w.drewN m).cell? ⟨B, 4, none⟩ = some a4 ∧ (w.drewN m).cell? ⟨B, 5, none⟩ = some a5 := by
  have hlt : B < w.heap.size := World.block_lt_of_cell? w _ h.1
  have hc : ∀ j, (w.drewN m).cell? ⟨B, j, none⟩ = w.cell? ⟨B, j, none⟩ := fun j => (below_drewN (Below.refl w.heap.size w) m).cell (p := ⟨B, j, none⟩) hlt
  simp only [hc]
  exact h

end Go.Proofs.Ytddfgplgjjkdcaa
