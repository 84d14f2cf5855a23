/-
  For every processor the law FnExactCpuText returns true: the program's CpuText answers as the model's does. There are no conditions.
-/
import Derived.Test.YtppkcljpfjdlnaaRows
import Derived.WalkKit
import Derived.ProofKit
import Derived.OpenShut
import Derived.ShutString
import Derived.ChangeOld
import Derived.Below
import Derived.Test.YtppkcljpfjdlnaaCpuLaws
import Derived.Test.YtppkcljpfjdlnaaPlain
import Derived.Test.YtppkcljpfjdlnaaImplCpu
namespace Go.Proofs.Ytppkcljpfjdlnaa.fnExactCpuText
open Go.ChangeShapes Go.WideShapes Go.ChangeAt Go.RowKit
open Go.ChangeMaps (open_string shut_string)
set_option linter.unusedVariables false

theorem own : ownKnob Try.prog.godebug = none := by kernel_rfl
theorem laidOut : laidOutB Try.prog = true := by kernel_rfl

theorem walk (w : World) (x0_0 : Int) (w0_0 : (Lit.int .u8 x0_0).wf = true) (x0_1 : Int) (w0_1 : (Lit.int .u8 x0_1).wf = true) (x0_2 : Int) (w0_2 : (Lit.int .u8 x0_2).wf = true) (x0_3 : Int) (w0_3 : (Lit.int .u8 x0_3).wf = true) (x0_4 : Int) (w0_4 : (Lit.int .u16 x0_4).wf = true) (x0_5 : Bool) (x0_6 : Bool) (x0_7 : Bool) (x0_8 : Bool) (x0_9 : Bool) (x0_10 : Bool) :
    Calls Try.prog 12 #[.agg #[.int .u8 x0_0, .int .u8 x0_1, .int .u8 x0_2, .int .u8 x0_3, .int .u16 x0_4, .bool x0_5, .bool x0_6, .bool x0_7, .bool x0_8, .bool x0_9, .bool x0_10]] w fun e w' => e = .returned (.bool true) ∧ Below w.heap.size w w' := by
  obtain ⟨n0, rfl⟩ := Int.eq_ofNat_of_zero_le (bounds_u8 w0_0).1
  have h0 := (bounds_u8 w0_0).2
  obtain ⟨n1, rfl⟩ := Int.eq_ofNat_of_zero_le (bounds_u8 w0_1).1
  have h1 := (bounds_u8 w0_1).2
  obtain ⟨n2, rfl⟩ := Int.eq_ofNat_of_zero_le (bounds_u8 w0_2).1
  have h2 := (bounds_u8 w0_2).2
  obtain ⟨n3, rfl⟩ := Int.eq_ofNat_of_zero_le (bounds_u8 w0_3).1
  have h3 := (bounds_u8 w0_3).2
  obtain ⟨n4, rfl⟩ := Int.eq_ofNat_of_zero_le (bounds_u16 w0_4).1
  have h4 := (bounds_u16 w0_4).2
  exact walkCpuText implCpuText ⟨n0, n1, n2, n3, n4, x0_5, x0_6, x0_7, x0_8, x0_9, x0_10⟩ ⟨by show n0 < 256; omega, by show n1 < 256; omega, by show n2 < 256; omega, by show n3 < 256; omega, by show n4 < 65536; omega⟩ w

set_option maxRecDepth 100000 in
theorem lifted (os : Os) (started : os.Started) (H : Type) (enc : TypeId × Value → H) :
    ReturnsInHanded {} Try.checked os 12 .any (Rows.fnExactCpuTextSpec.pre6 enc Try.prog Try.f12 Rows.fnExactCpuTextRow.domain false) (Rows.fnExactCpuTextSpec.post enc Try.prog Try.f12 false true false false) := by
  refine returnsInHanded_of_change (C := Try.checked) own started (by kernel_rfl) Try.func12
    (ChangeSpec.witness6 (enc := enc) (C := Try.checked) false ⟨#[], #[.agg #[.int .u8 0, .int .u8 0, .int .u8 0, .int .u8 0, .int .u16 0, .bool false, .bool false, .bool false, .bool false, .bool false, .bool false]], []⟩ 8 (by kernel_rfl) (by kernel_rfl) (by kernel_rfl) (by kernel_rfl)) ?_
  intro W base args ds gs before hval0 hW hcnd _
  have hval : ∀ (j : Nat) t v, Try.f12.params[j]? = some t → args[j]? = some v → Value.okWide Try.prog W .any base t v := hval0
  have hW' := hW
  obtain ⟨p, q, hA0, hV, rfl, hfz, hnd⟩ := hW
  have hA : DataW.TrodAll enc Try.prog W 0 (fun _ => true) true Try.f12.params.toList args.toList ds p := hA0
  rw [Try.params12] at hA hval
  obtain ⟨v0, vs0, d0, ds0, p0, q0, hargs, rfl, rfl, h0, r0⟩ := trodAll_cons hA
  obtain ⟨rfl, rfl, rfl⟩ := trodAll_nil r0
  obtain rfl : args = #[v0] := by cases args; simp_all
  obtain ⟨rfl, rfl⟩ := trodVars_none hV
  have k0 := h0
  have lt0 : ∀ x ∈ p0, x.block < W.heap.size := by obtain ⟨m, hm⟩ := k0; exact DataW.trod_lt m _ _ _ hm
  obtain ⟨l0, rfl, F0_0⟩ := open_flat 6 (show flat Try.prog 6 60 = some [some .u8, some .u8, some .u8, some .u8, some .u16, none, none, none, none, none, none] by kernel_rfl) Try.underlying60 (hval 0 60 v0 rfl rfl) h0
  obtain ⟨_, l0_1, rfl, ⟨x0_0, rfl, w0_0⟩, F0_1⟩ := fits_cons F0_0
  obtain ⟨_, l0_2, rfl, ⟨x0_1, rfl, w0_1⟩, F0_2⟩ := fits_cons F0_1
  obtain ⟨_, l0_3, rfl, ⟨x0_2, rfl, w0_2⟩, F0_3⟩ := fits_cons F0_2
  obtain ⟨_, l0_4, rfl, ⟨x0_3, rfl, w0_3⟩, F0_4⟩ := fits_cons F0_3
  obtain ⟨_, l0_5, rfl, ⟨x0_4, rfl, w0_4⟩, F0_5⟩ := fits_cons F0_4
  obtain ⟨_, l0_6, rfl, ⟨x0_5, rfl⟩, F0_6⟩ := fits_cons F0_5
  obtain ⟨_, l0_7, rfl, ⟨x0_6, rfl⟩, F0_7⟩ := fits_cons F0_6
  obtain ⟨_, l0_8, rfl, ⟨x0_7, rfl⟩, F0_8⟩ := fits_cons F0_7
  obtain ⟨_, l0_9, rfl, ⟨x0_8, rfl⟩, F0_9⟩ := fits_cons F0_8
  obtain ⟨_, l0_10, rfl, ⟨x0_9, rfl⟩, F0_10⟩ := fits_cons F0_9
  obtain ⟨_, l0_11, rfl, ⟨x0_10, rfl⟩, F0_11⟩ := fits_cons F0_10
  obtain rfl := fits_nil F0_11
  clear hA0 hval0
  refine (walk W x0_0 w0_0 x0_1 w0_1 x0_2 w0_2 x0_3 w0_3 x0_4 w0_4 x0_5 x0_6 x0_7 x0_8 x0_9 x0_10).mono fun e W' ⟨he, bel⟩ => ?_
  subst he
  exact ⟨_, rfl, _, _, _, [], _, [], hW', trodAll_mk1 (shut_bool Try.underlying4 _), (trodAll_cons_mk (Below.trod laidOut (by kernel_rfl) (of_decide_eq_true (by kernel_rfl)) k0 bel lt0) trodAll_mk0), rfl, bel.frame _, fun h => by cases h⟩

theorem over : Rows.fnExactCpuTextRow.holds Try.pinned (OpenSpec.ofChange Rows.fnExactCpuTextSpec) :=
  OpenClaim.holds_of_wide 12 Try.f12 rfl rfl rfl rfl rfl rfl rfl ⟨rfl, rfl, rfl, rfl, rfl⟩ rfl rfl rfl rfl rfl (by kernel_rfl) Try.func12 (by kernel_rfl)
    (of_decide_eq_true (by kernel_rfl)) (by unfold Func.isWrapper; first | (rw [if_pos (by decide +kernel)]; kernel_rfl) | (rw [if_neg (by decide +kernel)]; exact ⟨rfl, rfl⟩))
    (fun os started H enc _ => lifted os started H enc)

theorem proved : Rows.FnExactCpuTextSaid := over
#print axioms proved
end Go.Proofs.Ytppkcljpfjdlnaa.fnExactCpuText
