/-
  Contracts over the program: impl.Jams.
-/
import Derived.Test.YtblchdmemhhcbaaStepLaws
import Derived.Test.YtblchdmemhhcbaaImplRam
import Derived.Test.YtblchdmemhhcbaaOpJ
namespace Go.Proofs.Ytblchdmemhhcbaa
set_option linter.unusedVariables false
set_option linter.unusedSimpArgs false
open Go.RowKit

theorem jamOp (b : Nat) (hb : b < 256) (w : World) :
    Calls Try.prog 36 #[.int .u8 b] w fun e w' => e = .returned (.agg #[.string (opName b), .int .i64 (opMode b), .int .i64 (opSize b), .int .i64 (opKind b)]) ∧ Below w.heap.size w w' := implOp_any b hb w

theorem implJams : ImplJams := by
  intro a cap pc L w hpc _ _ hr
  have HO := fun w => implOk_any a L.length cap w
  cases h : ramN L.length with
  | false =>
    have e : jamsN L pc = false := by unfold jamsN; rw [h]; rfl
    rw [e]
    rw [h] at HO
    clear h e
    go_enter Try.func18, Try.ntmps18
    go_wp2_with fail
    refine (HO _).mono ?_
    rintro e w1 ⟨rfl, d1⟩
    have b1 := bstep ((Below.refl _ w).alloc (Nat.le_refl _) _) d1
    go_wp2
    go_ret
    exact ⟨rfl, b1⟩
  | true =>
    obtain ⟨x, hx⟩ : ∃ x, peekL L pc = x := ⟨_, rfl⟩
    have hxb : x < 256 := by rw [← hx]; exact peekL_lt hr pc
    have e : jamsN L pc = (opKind x == 0) := by
      unfold jamsN
      rw [h, hx, Bool.true_and]
      have := op_k0 hxb
      rw [Bool.eq_iff_iff]
      simp [this]
    rw [e]
    rw [h] at HO
    obtain ⟨kd, hk⟩ : ∃ r_, opKind x = r_ := ⟨_, rfl⟩
    have HOP := fun w => jamOp x hxb w
    rw [hk] at HOP ⊢
    have hf : ∀ (p q r s : Value) (w : World), (Instr.field 61 (.agg #[p, q, r, s]) 3).run Try.prog w = .ok s w := fun _ _ _ _ _ => by kernel_rfl
    have HX := Lib.hid hx
    have HR := Lib.hid hr
    clear h e hx hr hk
    go_enter Try.func18, Try.ntmps18
    go_wp2_with fail
    refine (HO _).mono ?_
    rintro e w1 ⟨rfl, d1⟩
    have q1 := (one_call d1).1
    have b1 := (one_call d1).2
    have c1 : w1.cell? ⟨w.heap.size, 0, none⟩ = some (.slice a L.length cap) := q1.cell 0 _ rfl
    clear d1
    go_wp2_with fail
    refine (implPeek_any a cap pc L hpc _ (RowB.below HR.out b1)).mono ?_
    rintro e w2 ⟨rfl, d2⟩
    have b2 := bstep b1 d2
    clear b1 d2 c1 q1
    rw [HX.out]
    go_wp2_with fail
    refine (HOP _).mono ?_
    rintro e w3 ⟨rfl, d3⟩
    have b3 := bstep b2 d3
    clear b2 d3
    go_wp2
    go_ret
    exact ⟨rfl, b3⟩

end Go.Proofs.Ytblchdmemhhcbaa
