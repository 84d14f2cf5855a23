/-
  For every memory the law FnExactCold returns true: the program's Cold answers as the model's does, and writes into no argument. There are no conditions.
-/
import Derived.Test.YtckfdbjjjgfbfaaRows
import Derived.WalkKit
import Derived.ProofKit
import Derived.OpenShut
import Derived.ShutString
import Derived.ChangeOld
import Derived.Below
import Derived.Test.YtckfdbjjjgfbfaaQColdLaw
import Derived.Test.YtckfdbjjjgfbfaaQWideB
namespace Go.Proofs.Ytckfdbjjjgfbfaa.fnExactCold
open Go.ChangeShapes Go.WideShapes Go.ChangeAt Go.RowKit
open Go.ChangeMaps (open_string shut_string)
set_option linter.unusedVariables false

theorem own : ownKnob Try.prog.godebug = none := by kernel_rfl
theorem laidOut : laidOutB Try.prog = true := by kernel_rfl

set_option maxRecDepth 100000 in
theorem walk_big (a : Option Addr) (len cap : Nat) (w : World) (hlen : len ≤ maxLen) (hbig : (1048576 : Int) < (len : Int)) :
    Calls Try.prog 4 #[ramV (.slice a len cap)] w fun e w' => e = .returned (.bool true) ∧ Below w.heap.size w w' := by
  have HSZ := fun w => szRam_any a len cap 1048576 hlen (by omega) w
  rw [if_pos (by omega)] at HSZ
  have b0 : Below w.heap.size w (w.alloc (.cells #[.slice a len cap] 39)) := (Below.refl _ _).alloc (Nat.le_refl _) _
  go_enter Try.func4, Try.ntmps4
  go_wp2_with fail
  refine (HSZ _).mono ?_
  rintro e w1 ⟨rfl, d1⟩
  have b1 := bstep b0 d1
  go_wp2
  go_ret
  exact ⟨rfl, b1⟩

theorem walk (w : World) (a0_0 : Option Addr) (len0_0 cap0_0 : Nat) (w0_0 : RowOf [some .u8] w a0_0 len0_0 cap0_0) :
    Calls Try.prog 4 #[.agg #[.slice a0_0 len0_0 cap0_0]] w fun e w' => e = .returned (.bool true) ∧ Below w.heap.size w w' := by
  obtain ⟨L, rfl, hr, hm0, hm1⟩ := rowOfB w0_0
  have hm := Nat.le_trans hm0 hm1
  by_cases hl : L.length ≤ 1048576
  · exact walkCold a0_0 cap0_0 L w hl hr
  · exact walk_big a0_0 L.length cap0_0 w hm (by omega)

set_option maxRecDepth 100000 in
theorem lifted (os : Os) (started : os.Started) (H : Type) (enc : TypeId × Value → H) :
    ReturnsInHanded {} Try.checked os 4 .any (Rows.fnExactColdSpec.pre6 enc Try.prog Try.f4 Rows.fnExactColdRow.domain false) (Rows.fnExactColdSpec.post enc Try.prog Try.f4 false true false false) := by
  refine returnsInHanded_of_change (C := Try.checked) own started (by kernel_rfl) Try.func4
    (ChangeSpec.witness6 (enc := enc) (C := Try.checked) false ⟨#[], #[.agg #[.slice none 0 0]], []⟩ 8 (by kernel_rfl) (by kernel_rfl) (by kernel_rfl) (by kernel_rfl)) ?_
  intro W base args ds gs before hval0 hW hcnd _
  have hval : ∀ (j : Nat) t v, Try.f4.params[j]? = some t → args[j]? = some v → Value.okWide Try.prog W .any base t v := hval0
  have hW' := hW
  obtain ⟨p, q, hA0, hV, rfl, hfz, hnd⟩ := hW
  have hA : DataW.TrodAll enc Try.prog W 0 (fun _ => true) true Try.f4.params.toList args.toList ds p := hA0
  rw [Try.params4] at hA hval
  obtain ⟨v0, vs0, d0, ds0, p0, q0, hargs, rfl, rfl, h0, r0⟩ := trodAll_cons hA
  obtain ⟨rfl, rfl, rfl⟩ := trodAll_nil r0
  obtain rfl : args = #[v0] := by cases args; simp_all
  obtain ⟨rfl, rfl⟩ := trodVars_none hV
  have k0 := h0
  have lt0 : ∀ x ∈ p0, x.block < W.heap.size := by obtain ⟨m, hm⟩ := k0; exact DataW.trod_lt m _ _ _ hm
  obtain ⟨l0, rfl, F0_0⟩ := open_wide 8 (show flatW Try.prog 8 39 = some [.sl [some .u8]] by kernel_rfl) Try.underlying39 (hval 0 39 v0 rfl rfl) h0
  obtain ⟨_, l0_1, rfl, ⟨a0_0, len0_0, cap0_0, rfl, w0_0⟩, F0_1⟩ := fitsW_cons F0_0
  obtain rfl := fitsW_nil F0_1
  clear hA0 hval0
  refine (walk W a0_0 len0_0 cap0_0 w0_0).mono fun e W' ⟨he, bel⟩ => ?_
  subst he
  exact ⟨_, rfl, _, _, _, [], _, [], hW', trodAll_mk1 (shut_bool Try.underlying4 _), (trodAll_cons_mk (Below.trod laidOut (by kernel_rfl) (of_decide_eq_true (by kernel_rfl)) k0 bel lt0) trodAll_mk0), rfl, bel.frame _, fun h => by cases h⟩

theorem over : Rows.fnExactColdRow.holds Try.pinned (OpenSpec.ofChange Rows.fnExactColdSpec) :=
  OpenClaim.holds_of_wide 4 Try.f4 rfl rfl rfl rfl rfl rfl rfl ⟨rfl, rfl, rfl, rfl, rfl⟩ rfl rfl rfl rfl rfl (by kernel_rfl) Try.func4 (by kernel_rfl)
    (of_decide_eq_true (by kernel_rfl)) (by unfold Func.isWrapper; first | (rw [if_pos (by decide +kernel)]; kernel_rfl) | (rw [if_neg (by decide +kernel)]; exact ⟨rfl, rfl⟩))
    (fun os started H enc _ => lifted os started H enc)

theorem proved : Rows.FnExactColdSaid := over
#print axioms proved

end Go.Proofs.Ytckfdbjjjgfbfaa.fnExactCold
