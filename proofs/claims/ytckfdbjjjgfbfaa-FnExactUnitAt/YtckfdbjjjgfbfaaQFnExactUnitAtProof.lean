/-
  For every shot and every place the law FnExactUnitAt returns true: the program's UnitAt answers as the model's does, and writes into no argument. There are no conditions.
-/
import Derived.Test.YtckfdbjjjgfbfaaRows
import Derived.WalkKit
import Derived.ProofKit
import Derived.OpenShut
import Derived.ShutString
import Derived.ChangeOld
import Derived.Below
import Derived.Test.YtckfdbjjjgfbfaaQUnitLaw
import Derived.Test.YtckfdbjjjgfbfaaQWideB
namespace Go.Proofs.Ytckfdbjjjgfbfaa.fnExactUnitAt
open Go.ChangeShapes Go.WideShapes Go.ChangeAt Go.RowKit
open Go.ChangeMaps (open_string shut_string)
set_option linter.unusedVariables false

theorem own : ownKnob Try.prog.godebug = none := by kernel_rfl
theorem laidOut : laidOutB Try.prog = true := by kernel_rfl

set_option maxRecDepth 100000 in
theorem walk_big (c : CpuN) (am ta sa pa : Option Addr) (n1 c1 n2 c2 n3 c3 n4 c4 : Nat) (j : Bool) (i : Int) (w : World) (m1 : n1 ≤ maxLen) (m2 : n2 ≤ maxLen) (m3 : n3 ≤ maxLen) (m4 : n4 ≤ maxLen) (hbig : 1048576 < n1 + n2 + n3 + n4) :
    Calls Try.prog 5 #[shotV c (.slice am n1 c1) (.slice ta n2 c2) (.slice sa n3 c3) (.slice pa n4 c4) j, .int .i64 i] w fun e w' => e = .returned (.bool true) ∧ Below w.heap.size w w' := by
  have HSZ := fun w => szShot_no c am ta sa pa n1 c1 n2 c2 n3 c3 n4 c4 j 1048576 (Nat.le_refl _) m1 m2 m3 m4 hbig w
  have b0 := alw w (.cells (shotCells c (.slice am n1 c1) (.slice ta n2 c2) (.slice sa n3 c3) (.slice pa n4 c4) j) 52)
  have p0 := BoxN.new w 52 (shotCells c (.slice am n1 c1) (.slice ta n2 c2) (.slice sa n3 c3) (.slice pa n4 c4) j)
  have ld := load_part (ty := 52) p0 0 (shotCells c (.slice am n1 c1) (.slice ta n2 c2) (.slice sa n3 c3) (.slice pa n4 c4) j) (by kernel_rfl) (by kernel_rfl) (by kernel_rfl)
  clear p0
  go_enter Try.func5, Try.ntmps5
  go_wp2_with (refine wpList_load_run ld rfl rfl rfl ?_)
  refine (HSZ _).mono ?_
  rintro e w1 ⟨rfl, d1⟩
  have b1 := bstep b0 d1
  clear ld
  go_wp2
  go_ret
  exact ⟨rfl, b1⟩

theorem walk (w : World) (x0_0 : Int) (w0_0 : (Lit.int .u8 x0_0).wf = true) (x0_1 : Int) (w0_1 : (Lit.int .u8 x0_1).wf = true) (x0_2 : Int) (w0_2 : (Lit.int .u8 x0_2).wf = true) (x0_3 : Int) (w0_3 : (Lit.int .u8 x0_3).wf = true) (x0_4 : Int) (w0_4 : (Lit.int .u16 x0_4).wf = true) (x0_5 : Bool) (x0_6 : Bool) (x0_7 : Bool) (x0_8 : Bool) (x0_9 : Bool) (x0_10 : Bool) (a0_11 : Option Addr) (len0_11 cap0_11 : Nat) (w0_11 : RowOf [some .u8] w a0_11 len0_11 cap0_11) (a0_12 : Option Addr) (len0_12 cap0_12 : Nat) (w0_12 : RowOf [some .u16, some .u8, none] w a0_12 len0_12 cap0_12) (a0_13 : Option Addr) (len0_13 cap0_13 : Nat) (w0_13 : RowOf [some .i64] w a0_13 len0_13 cap0_13) (a0_14 : Option Addr) (len0_14 cap0_14 : Nat) (w0_14 : RowOf [some .u8, some .u8, some .u8, some .u8, some .u16, none, none, none, none, none, none] w a0_14 len0_14 cap0_14) (x0_15 : Bool) (a1 : Int) (w1 : (Lit.int .i64 a1).wf = true) :
    Calls Try.prog 5 #[.agg #[.int .u8 x0_0, .int .u8 x0_1, .int .u8 x0_2, .int .u8 x0_3, .int .u16 x0_4, .bool x0_5, .bool x0_6, .bool x0_7, .bool x0_8, .bool x0_9, .bool x0_10, .slice a0_11 len0_11 cap0_11, .slice a0_12 len0_12 cap0_12, .slice a0_13 len0_13 cap0_13, .slice a0_14 len0_14 cap0_14, .bool x0_15], .int .i64 a1] w fun e w' => e = .returned (.bool true) ∧ Below w.heap.size w w' := by
  obtain ⟨n0, rfl⟩ := Int.eq_ofNat_of_zero_le (bounds_u8 w0_0).1
  obtain ⟨n1, rfl⟩ := Int.eq_ofNat_of_zero_le (bounds_u8 w0_1).1
  obtain ⟨n2, rfl⟩ := Int.eq_ofNat_of_zero_le (bounds_u8 w0_2).1
  obtain ⟨n3, rfl⟩ := Int.eq_ofNat_of_zero_le (bounds_u8 w0_3).1
  obtain ⟨n4, rfl⟩ := Int.eq_ofNat_of_zero_le (bounds_u16 w0_4).1
  obtain ⟨L, rfl, hr1, hm0, hm1⟩ := rowOfB w0_11
  obtain ⟨T, rfl, hr2, _, hm2, hm3⟩ := rowOfCyc w0_12
  obtain ⟨S, rfl, hr3, _, hm4, hm5⟩ := rowOfI w0_13
  obtain ⟨P, rfl, hr4, _, hm6, hm7⟩ := rowOfCpu w0_14
  by_cases hl : L.length + T.length + S.length + P.length ≤ 1048576
  · exact walkUnitAt ⟨⟨n0, n1, n2, n3, n4, x0_5, x0_6, x0_7, x0_8, x0_9, x0_10⟩, L, T, S, P, x0_15⟩ a0_11 a0_12 a0_13 a0_14 cap0_11 cap0_12 cap0_13 cap0_14 a1 w w1 ⟨by show L.length ≤ 1048576; omega, by show T.length ≤ 1048576; omega, by show S.length ≤ 1048576; omega, by show P.length ≤ 1048576; omega⟩ hl ⟨hr1, hr2, hr3, hr4⟩
  · exact walk_big ⟨n0, n1, n2, n3, n4, x0_5, x0_6, x0_7, x0_8, x0_9, x0_10⟩ a0_11 a0_12 a0_13 a0_14 L.length cap0_11 T.length cap0_12 S.length cap0_13 P.length cap0_14 x0_15 a1 w (by omega) (by omega) (by omega) (by omega) (by omega)

set_option maxRecDepth 100000 in
theorem lifted (os : Os) (started : os.Started) (H : Type) (enc : TypeId × Value → H) :
    ReturnsInHanded {} Try.checked os 5 .any (Rows.fnExactUnitAtSpec.pre6 enc Try.prog Try.f5 Rows.fnExactUnitAtRow.domain false) (Rows.fnExactUnitAtSpec.post enc Try.prog Try.f5 false true false false) := by
  refine returnsInHanded_of_change (C := Try.checked) own started (by kernel_rfl) Try.func5
    (ChangeSpec.witness6 (enc := enc) (C := Try.checked) false ⟨#[], #[.agg #[.int .u8 0, .int .u8 0, .int .u8 0, .int .u8 0, .int .u16 0, .bool false, .bool false, .bool false, .bool false, .bool false, .bool false, .slice none 0 0, .slice none 0 0, .slice none 0 0, .slice none 0 0, .bool false], .int .i64 0], []⟩ 8 (by kernel_rfl) (by kernel_rfl) (by kernel_rfl) (by kernel_rfl)) ?_
  intro W base args ds gs before hval0 hW hcnd _
  have hval : ∀ (j : Nat) t v, Try.f5.params[j]? = some t → args[j]? = some v → Value.okWide Try.prog W .any base t v := hval0
  have hW' := hW
  obtain ⟨p, q, hA0, hV, rfl, hfz, hnd⟩ := hW
  have hA : DataW.TrodAll enc Try.prog W 0 (fun _ => true) true Try.f5.params.toList args.toList ds p := hA0
  rw [Try.params5] at hA hval
  obtain ⟨v0, vs0, d0, ds0, p0, q0, hargs, rfl, rfl, h0, r0⟩ := trodAll_cons hA
  obtain ⟨v1, vs1, d1, ds1, p1, q1, rfl, rfl, rfl, h1, r1⟩ := trodAll_cons r0
  obtain ⟨rfl, rfl, rfl⟩ := trodAll_nil r1
  obtain rfl : args = #[v0, v1] := by cases args; simp_all
  obtain ⟨rfl, rfl⟩ := trodVars_none hV
  have k0 := h0
  have lt0 : ∀ x ∈ p0, x.block < W.heap.size := by obtain ⟨m, hm⟩ := k0; exact DataW.trod_lt m _ _ _ hm
  have k1 := h1
  have lt1 : ∀ x ∈ p1, x.block < W.heap.size := by obtain ⟨m, hm⟩ := k1; exact DataW.trod_lt m _ _ _ hm
  obtain ⟨l0, rfl, F0_0⟩ := open_wide 8 (show flatW Try.prog 8 52 = some [.i .u8, .i .u8, .i .u8, .i .u8, .i .u16, .b, .b, .b, .b, .b, .b, .sl [some .u8], .sl [some .u16, some .u8, none], .sl [some .i64], .sl [some .u8, some .u8, some .u8, some .u8, some .u16, none, none, none, none, none, none], .b] by kernel_rfl) Try.underlying52 (hval 0 52 v0 rfl rfl) h0
  obtain ⟨_, l0_1, rfl, ⟨x0_0, rfl, w0_0⟩, F0_1⟩ := fitsW_cons F0_0
  obtain ⟨_, l0_2, rfl, ⟨x0_1, rfl, w0_1⟩, F0_2⟩ := fitsW_cons F0_1
  obtain ⟨_, l0_3, rfl, ⟨x0_2, rfl, w0_2⟩, F0_3⟩ := fitsW_cons F0_2
  obtain ⟨_, l0_4, rfl, ⟨x0_3, rfl, w0_3⟩, F0_4⟩ := fitsW_cons F0_3
  obtain ⟨_, l0_5, rfl, ⟨x0_4, rfl, w0_4⟩, F0_5⟩ := fitsW_cons F0_4
  obtain ⟨_, l0_6, rfl, ⟨x0_5, rfl⟩, F0_6⟩ := fitsW_cons F0_5
  obtain ⟨_, l0_7, rfl, ⟨x0_6, rfl⟩, F0_7⟩ := fitsW_cons F0_6
  obtain ⟨_, l0_8, rfl, ⟨x0_7, rfl⟩, F0_8⟩ := fitsW_cons F0_7
  obtain ⟨_, l0_9, rfl, ⟨x0_8, rfl⟩, F0_9⟩ := fitsW_cons F0_8
  obtain ⟨_, l0_10, rfl, ⟨x0_9, rfl⟩, F0_10⟩ := fitsW_cons F0_9
  obtain ⟨_, l0_11, rfl, ⟨x0_10, rfl⟩, F0_11⟩ := fitsW_cons F0_10
  obtain ⟨_, l0_12, rfl, ⟨a0_11, len0_11, cap0_11, rfl, w0_11⟩, F0_12⟩ := fitsW_cons F0_11
  obtain ⟨_, l0_13, rfl, ⟨a0_12, len0_12, cap0_12, rfl, w0_12⟩, F0_13⟩ := fitsW_cons F0_12
  obtain ⟨_, l0_14, rfl, ⟨a0_13, len0_13, cap0_13, rfl, w0_13⟩, F0_14⟩ := fitsW_cons F0_13
  obtain ⟨_, l0_15, rfl, ⟨a0_14, len0_14, cap0_14, rfl, w0_14⟩, F0_15⟩ := fitsW_cons F0_14
  obtain ⟨_, l0_16, rfl, ⟨x0_15, rfl⟩, F0_16⟩ := fitsW_cons F0_15
  obtain rfl := fitsW_nil F0_16
  obtain ⟨a1, rfl, _, _, w1⟩ := open_int Try.underlying3 (hval 1 3 v1 rfl rfl) h1
  clear hA0 hval0
  refine (walk W x0_0 w0_0 x0_1 w0_1 x0_2 w0_2 x0_3 w0_3 x0_4 w0_4 x0_5 x0_6 x0_7 x0_8 x0_9 x0_10 a0_11 len0_11 cap0_11 w0_11 a0_12 len0_12 cap0_12 w0_12 a0_13 len0_13 cap0_13 w0_13 a0_14 len0_14 cap0_14 w0_14 x0_15 a1 w1).mono fun e W' ⟨he, bel⟩ => ?_
  subst he
  exact ⟨_, rfl, _, _, _, [], _, [], hW', trodAll_mk1 (shut_bool Try.underlying4 _), (trodAll_cons_mk (Below.trod laidOut (by kernel_rfl) (of_decide_eq_true (by kernel_rfl)) k0 bel lt0) (trodAll_cons_mk (Below.trod laidOut (by kernel_rfl) (of_decide_eq_true (by kernel_rfl)) k1 bel lt1) trodAll_mk0)), rfl, bel.frame _, fun h => by cases h⟩

theorem over : Rows.fnExactUnitAtRow.holds Try.pinned (OpenSpec.ofChange Rows.fnExactUnitAtSpec) :=
  OpenClaim.holds_of_wide 5 Try.f5 rfl rfl rfl rfl rfl rfl rfl ⟨rfl, rfl, rfl, rfl, rfl⟩ rfl rfl rfl rfl rfl (by kernel_rfl) Try.func5 (by kernel_rfl)
    (of_decide_eq_true (by kernel_rfl)) (by unfold Func.isWrapper; first | (rw [if_pos (by decide +kernel)]; kernel_rfl) | (rw [if_neg (by decide +kernel)]; exact ⟨rfl, rfl⟩))
    (fun os started H enc _ => lifted os started H enc)

theorem proved : Rows.FnExactUnitAtSaid := over
#print axioms proved

end Go.Proofs.Ytckfdbjjjgfbfaa.fnExactUnitAt
