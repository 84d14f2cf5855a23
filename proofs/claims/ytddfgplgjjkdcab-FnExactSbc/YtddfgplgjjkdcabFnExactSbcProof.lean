/-
  For every two bytes and all flags the law FnExactSbc returns true: the program's Sbc answers as the model's does, every field. There are no conditions.
-/
import Derived.Test.YtddfgplgjjkdcabRows
import Derived.WalkKit
import Derived.ProofKit
import Derived.OpenShut
import Derived.ShutString
import Derived.ChangeOld
import Derived.Below
import Derived.Test.YtddfgplgjjkdcabAluD
import Derived.Test.YtddfgplgjjkdcabAluE
import Derived.Test.YtddfgplgjjkdcabPlain
namespace Go.Proofs.Ytddfgplgjjkdcab.fnExactSbc
open Go.ChangeShapes Go.WideShapes Go.ChangeAt Go.RowKit
open Go.ChangeMaps (open_string shut_string)
set_option linter.unusedVariables false

theorem own : ownKnob Try.prog.godebug = none := by kernel_rfl
theorem laidOut : laidOutB Try.prog = true := by kernel_rfl

theorem walk (w : World) (a0 : Int) (w0 : (Lit.int .u8 a0).wf = true) (a1 : Int) (w1 : (Lit.int .u8 a1).wf = true) (x2_0 : Bool) (x2_1 : Bool) (x2_2 : Bool) (x2_3 : Bool) (x2_4 : Bool) (x2_5 : Bool) :
    Calls Try.prog 6 #[.int .u8 a0, .int .u8 a1, .agg #[.bool x2_0, .bool x2_1, .bool x2_2, .bool x2_3, .bool x2_4, .bool x2_5]] w fun e w' => e = .returned (.bool true) ∧ Below w.heap.size w w' := by
  obtain ⟨b0, b1⟩ := bounds_u8 w0
  obtain ⟨b2, b3⟩ := bounds_u8 w1
  go_enter Try.func6, Try.ntmps6
  go_wp2_with fail
  refine (toFlags_any _ _ _ _ _ _ _).mono ?_
  rintro e w1 ⟨rfl, hb1⟩
  have B1 := Lib.hid (keep6 hb1 (new6 w))
  have z1 : w.heap.size < w1.heap.size := (cells6 B1.out).1
  go_wp2_with fail
  refine (specSbc_any _ _ _ _ _ _ _ _ _ b0 b1 b2 b3).mono ?_
  rintro e w2 ⟨rfl, hb2⟩
  have B2 := Lib.hid (keep6 hb2 B1.out)
  obtain ⟨z2, c0, c1, c2, c3, c4, c5⟩ := cells6 B2.out
  go_wp2_with fail
  refine (toFlags_any _ _ _ _ _ _ _).mono ?_
  rintro e w3 ⟨rfl, hb3⟩
  have R3 := Lib.hid (keep6 hb3 (new6 w2))
  clear c0 c1 c2 c3 c4 c5
  go_wp2_with fail
  refine (implSbc_any _ _ _ _ _ _ _ _ _ b0 b1 b2 b3).mono ?_
  rintro e w4 ⟨rfl, hb4⟩
  have R4 := Lib.hid (keep6 hb4 R3.out)
  obtain ⟨z4, c0, c1, c2, c3, c4, c5⟩ := cells6 R4.out
  go_wp2_with fail
  refine (eqFlags_same _ _ _ _ _ _ _).mono ?_
  rintro e w5 ⟨rfl, hb5⟩
  go_wp2
  go_ret
  refine ⟨rfl, ?_⟩
  have q1 := ((Below.refl w.heap.size w).alloc (Nat.le_refl _) _).trans (hb1.mono (by simp))
  have q2 := q1.trans (hb2.mono q1.size)
  have q3 := (q2.alloc q2.size _).trans (hb3.mono (by simp; have := q2.size; omega))
  have q4 := q3.trans (hb4.mono q3.size)
  exact (q4.alloc q4.size _).trans (hb5.mono (by simp; have := q4.size; omega))

set_option maxRecDepth 100000 in
theorem lifted (os : Os) (started : os.Started) (H : Type) (enc : TypeId × Value → H) :
    ReturnsInHanded {} Try.checked os 6 .any (Rows.fnExactSbcSpec.pre6 enc Try.prog Try.f6 Rows.fnExactSbcRow.domain false) (Rows.fnExactSbcSpec.post enc Try.prog Try.f6 false true false false) := by
  refine returnsInHanded_of_change (C := Try.checked) own started (by kernel_rfl) Try.func6
    (ChangeSpec.witness6 (enc := enc) (C := Try.checked) false ⟨#[], #[.int .u8 0, .int .u8 0, .agg #[.bool false, .bool false, .bool false, .bool false, .bool false, .bool false]], []⟩ 8 (by kernel_rfl) (by kernel_rfl) (by kernel_rfl) (by kernel_rfl)) ?_
  intro W base args ds gs before hval0 hW hcnd _
  have hval : ∀ (j : Nat) t v, Try.f6.params[j]? = some t → args[j]? = some v → Value.okWide Try.prog W .any base t v := hval0
  have hW' := hW
  obtain ⟨p, q, hA0, hV, rfl, hfz, hnd⟩ := hW
  have hA : DataW.TrodAll enc Try.prog W 0 (fun _ => true) true Try.f6.params.toList args.toList ds p := hA0
  rw [Try.params6] at hA hval
  obtain ⟨v0, vs0, d0, ds0, p0, q0, hargs, rfl, rfl, h0, r0⟩ := trodAll_cons hA
  obtain ⟨v1, vs1, d1, ds1, p1, q1, rfl, rfl, rfl, h1, r1⟩ := trodAll_cons r0
  obtain ⟨v2, vs2, d2, ds2, p2, q2, rfl, rfl, rfl, h2, r2⟩ := trodAll_cons r1
  obtain ⟨rfl, rfl, rfl⟩ := trodAll_nil r2
  obtain rfl : args = #[v0, v1, v2] := by cases args; simp_all
  obtain ⟨rfl, rfl⟩ := trodVars_none hV
  have k0 := h0
  have lt0 : ∀ x ∈ p0, x.block < W.heap.size := by obtain ⟨m, hm⟩ := k0; exact DataW.trod_lt m _ _ _ hm
  have k1 := h1
  have lt1 : ∀ x ∈ p1, x.block < W.heap.size := by obtain ⟨m, hm⟩ := k1; exact DataW.trod_lt m _ _ _ hm
  have k2 := h2
  have lt2 : ∀ x ∈ p2, x.block < W.heap.size := by obtain ⟨m, hm⟩ := k2; exact DataW.trod_lt m _ _ _ hm
  obtain ⟨a0, rfl, _, _, w0⟩ := open_int Try.underlying5 (hval 0 5 v0 rfl rfl) h0
  obtain ⟨a1, rfl, _, _, w1⟩ := open_int Try.underlying5 (hval 1 5 v1 rfl rfl) h1
  obtain ⟨l2, rfl, F2_0⟩ := open_flat 6 (show flat Try.prog 6 27 = some [none, none, none, none, none, none] by kernel_rfl) Try.underlying27 (hval 2 27 v2 rfl rfl) h2
  obtain ⟨_, l2_1, rfl, ⟨x2_0, rfl⟩, F2_1⟩ := fits_cons F2_0
  obtain ⟨_, l2_2, rfl, ⟨x2_1, rfl⟩, F2_2⟩ := fits_cons F2_1
  obtain ⟨_, l2_3, rfl, ⟨x2_2, rfl⟩, F2_3⟩ := fits_cons F2_2
  obtain ⟨_, l2_4, rfl, ⟨x2_3, rfl⟩, F2_4⟩ := fits_cons F2_3
  obtain ⟨_, l2_5, rfl, ⟨x2_4, rfl⟩, F2_5⟩ := fits_cons F2_4
  obtain ⟨_, l2_6, rfl, ⟨x2_5, rfl⟩, F2_6⟩ := fits_cons F2_5
  obtain rfl := fits_nil F2_6
  clear hA0 hval0
  refine (walk W a0 w0 a1 w1 x2_0 x2_1 x2_2 x2_3 x2_4 x2_5).mono fun e W' ⟨he, bel⟩ => ?_
  subst he
  exact ⟨_, rfl, _, _, _, [], _, [], hW', trodAll_mk1 (shut_bool Try.underlying4 _), (trodAll_cons_mk (Below.trod laidOut (by kernel_rfl) (of_decide_eq_true (by kernel_rfl)) k0 bel lt0) (trodAll_cons_mk (Below.trod laidOut (by kernel_rfl) (of_decide_eq_true (by kernel_rfl)) k1 bel lt1) (trodAll_cons_mk (Below.trod laidOut (by kernel_rfl) (of_decide_eq_true (by kernel_rfl)) k2 bel lt2) trodAll_mk0))), rfl, bel.frame _, fun h => by cases h⟩

theorem over : Rows.fnExactSbcRow.holds Try.pinned (OpenSpec.ofChange Rows.fnExactSbcSpec) :=
  OpenClaim.holds_of_wide 6 Try.f6 rfl rfl rfl rfl rfl rfl rfl ⟨rfl, rfl, rfl, rfl, rfl⟩ rfl rfl rfl rfl rfl (by kernel_rfl) Try.func6 (by kernel_rfl)
    (of_decide_eq_true (by kernel_rfl)) (by unfold Func.isWrapper; first | (rw [if_pos (by decide +kernel)]; kernel_rfl) | (rw [if_neg (by decide +kernel)]; exact ⟨rfl, rfl⟩))
    (fun os started H enc _ => lifted os started H enc)

theorem proved : Rows.FnExactSbcSaid := over
#print axioms proved
end Go.Proofs.Ytddfgplgjjkdcab.fnExactSbc
