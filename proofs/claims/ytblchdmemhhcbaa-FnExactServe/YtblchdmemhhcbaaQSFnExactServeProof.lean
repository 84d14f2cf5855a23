/-
  For every processor, every memory and either kind of interrupt the law FnExactServe returns true: the program's Serve answers as the model's does, writes into no argument, and its answer owns its memory. There are no conditions.
-/
import Derived.Test.YtblchdmemhhcbaaRows
import Derived.WalkKit
import Derived.ProofKit
import Derived.OpenShut
import Derived.ShutString
import Derived.ChangeOld
import Derived.Below
import Derived.Test.YtblchdmemhhcbaaQSStepLaws2
import Derived.Test.YtblchdmemhhcbaaQSWideB
import Derived.Test.YtblchdmemhhcbaaQSPlain
import Derived.Test.YtblchdmemhhcbaaQSImplServe
namespace Go.Proofs.Ytblchdmemhhcbaa.fnExactServe
open Go.ChangeShapes Go.WideShapes Go.ChangeAt Go.RowKit
open Go.ChangeMaps (open_string shut_string)
set_option linter.unusedVariables false

theorem own : ownKnob Try.prog.godebug = none := by kernel_rfl
theorem laidOut : laidOutB Try.prog = true := by kernel_rfl

set_option maxRecDepth 100000 in
theorem walk_big (c : CpuN) (nmi : Bool) (a : Option Addr) (len cap : Nat) (w : World) (hlen : len ≤ maxLen) (hbig : (1048576 : Int) < (len : Int)) :
    Calls Try.prog 3 #[cpuV c, ramV (.slice a len cap), .bool nmi] w fun e w' => e = .returned (.bool true) ∧ Below w.heap.size w w' := by
  have HSZ := fun w => szRam_any a len cap 1048576 hlen (by omega) w
  rw [if_pos (by omega)] at HSZ
  have b0 := bstep (alw w (.cells (cpuCells c) 26)) (alw (w.alloc (.cells (cpuCells c) 26)) (.cells #[.slice a len cap] 29))
  go_enter Try.func3, Try.ntmps3
  go_wp2_with fail
  refine (HSZ _).mono ?_
  rintro e w1 ⟨rfl, d1⟩
  have b1 := bstep b0 d1
  go_wp2
  go_ret
  exact ⟨rfl, b1⟩

theorem walk (w : World) (x0_0 : Int) (w0_0 : (Lit.int .u8 x0_0).wf = true) (x0_1 : Int) (w0_1 : (Lit.int .u8 x0_1).wf = true) (x0_2 : Int) (w0_2 : (Lit.int .u8 x0_2).wf = true) (x0_3 : Int) (w0_3 : (Lit.int .u8 x0_3).wf = true) (x0_4 : Int) (w0_4 : (Lit.int .u16 x0_4).wf = true) (x0_5 : Bool) (x0_6 : Bool) (x0_7 : Bool) (x0_8 : Bool) (x0_9 : Bool) (x0_10 : Bool) (a1_0 : Option Addr) (len1_0 cap1_0 : Nat) (w1_0 : RowOf [some .u8] w a1_0 len1_0 cap1_0) (a2 : Bool) :
    Calls Try.prog 3 #[.agg #[.int .u8 x0_0, .int .u8 x0_1, .int .u8 x0_2, .int .u8 x0_3, .int .u16 x0_4, .bool x0_5, .bool x0_6, .bool x0_7, .bool x0_8, .bool x0_9, .bool x0_10], .agg #[.slice a1_0 len1_0 cap1_0], .bool a2] w fun e w' => e = .returned (.bool true) ∧ Below w.heap.size w w' := by
  obtain ⟨n0, rfl⟩ := Int.eq_ofNat_of_zero_le (bounds_u8 w0_0).1
  have h0 := (bounds_u8 w0_0).2
  obtain ⟨n1, rfl⟩ := Int.eq_ofNat_of_zero_le (bounds_u8 w0_1).1
  have h1 := (bounds_u8 w0_1).2
  obtain ⟨n2, rfl⟩ := Int.eq_ofNat_of_zero_le (bounds_u8 w0_2).1
  have h2 := (bounds_u8 w0_2).2
  obtain ⟨n3, rfl⟩ := Int.eq_ofNat_of_zero_le (bounds_u8 w0_3).1
  have h3 := (bounds_u8 w0_3).2
  obtain ⟨n4, rfl⟩ := Int.eq_ofNat_of_zero_le (bounds_u16 w0_4).1
  have h4 := (bounds_u16 w0_4).2
  obtain ⟨L, rfl, hr, hm0, hm1⟩ := rowOfB w1_0
  have hm := Nat.le_trans hm0 hm1
  by_cases hl : L.length ≤ 1048576
  · exact walkServe implServe ⟨n0, n1, n2, n3, n4, x0_5, x0_6, x0_7, x0_8, x0_9, x0_10⟩ ⟨by show n0 < 256; omega, by show n1 < 256; omega, by show n2 < 256; omega, by show n3 < 256; omega, by show n4 < 65536; omega⟩ a2 a1_0 cap1_0 L w hl hr
  · exact walk_big ⟨n0, n1, n2, n3, n4, x0_5, x0_6, x0_7, x0_8, x0_9, x0_10⟩ a2 a1_0 L.length cap1_0 w hm (by omega)

set_option maxRecDepth 100000 in
theorem lifted (os : Os) (started : os.Started) (H : Type) (enc : TypeId × Value → H) :
    ReturnsInHanded {} Try.checked os 3 .any (Rows.fnExactServeSpec.pre6 enc Try.prog Try.f3 Rows.fnExactServeRow.domain false) (Rows.fnExactServeSpec.post enc Try.prog Try.f3 false true false false) := by
  refine returnsInHanded_of_change (C := Try.checked) own started (by kernel_rfl) Try.func3
    (ChangeSpec.witness6 (enc := enc) (C := Try.checked) false ⟨#[], #[.agg #[.int .u8 0, .int .u8 0, .int .u8 0, .int .u8 0, .int .u16 0, .bool false, .bool false, .bool false, .bool false, .bool false, .bool false], .agg #[.slice none 0 0], .bool false], []⟩ 8 (by kernel_rfl) (by kernel_rfl) (by kernel_rfl) (by kernel_rfl)) ?_
  intro W base args ds gs before hval0 hW hcnd _
  have hval : ∀ (j : Nat) t v, Try.f3.params[j]? = some t → args[j]? = some v → Value.okWide Try.prog W .any base t v := hval0
  have hW' := hW
  obtain ⟨p, q, hA0, hV, rfl, hfz, hnd⟩ := hW
  have hA : DataW.TrodAll enc Try.prog W 0 (fun _ => true) true Try.f3.params.toList args.toList ds p := hA0
  rw [Try.params3] at hA hval
  obtain ⟨v0, vs0, d0, ds0, p0, q0, hargs, rfl, rfl, h0, r0⟩ := trodAll_cons hA
  obtain ⟨v1, vs1, d1, ds1, p1, q1, rfl, rfl, rfl, h1, r1⟩ := trodAll_cons r0
  obtain ⟨v2, vs2, d2, ds2, p2, q2, rfl, rfl, rfl, h2, r2⟩ := trodAll_cons r1
  obtain ⟨rfl, rfl, rfl⟩ := trodAll_nil r2
  obtain rfl : args = #[v0, v1, v2] := by cases args; simp_all
  obtain ⟨rfl, rfl⟩ := trodVars_none hV
  have k0 := h0
  have lt0 : ∀ x ∈ p0, x.block < W.heap.size := by obtain ⟨m, hm⟩ := k0; exact DataW.trod_lt m _ _ _ hm
  have k1 := h1
  have lt1 : ∀ x ∈ p1, x.block < W.heap.size := by obtain ⟨m, hm⟩ := k1; exact DataW.trod_lt m _ _ _ hm
  have k2 := h2
  have lt2 : ∀ x ∈ p2, x.block < W.heap.size := by obtain ⟨m, hm⟩ := k2; exact DataW.trod_lt m _ _ _ hm
  obtain ⟨l0, rfl, F0_0⟩ := open_flat 6 (show flat Try.prog 6 26 = some [some .u8, some .u8, some .u8, some .u8, some .u16, none, none, none, none, none, none] by kernel_rfl) Try.underlying26 (hval 0 26 v0 rfl rfl) h0
  obtain ⟨_, l0_1, rfl, ⟨x0_0, rfl, w0_0⟩, F0_1⟩ := fits_cons F0_0
  obtain ⟨_, l0_2, rfl, ⟨x0_1, rfl, w0_1⟩, F0_2⟩ := fits_cons F0_1
  obtain ⟨_, l0_3, rfl, ⟨x0_2, rfl, w0_2⟩, F0_3⟩ := fits_cons F0_2
  obtain ⟨_, l0_4, rfl, ⟨x0_3, rfl, w0_3⟩, F0_4⟩ := fits_cons F0_3
  obtain ⟨_, l0_5, rfl, ⟨x0_4, rfl, w0_4⟩, F0_5⟩ := fits_cons F0_4
  obtain ⟨_, l0_6, rfl, ⟨x0_5, rfl⟩, F0_6⟩ := fits_cons F0_5
  obtain ⟨_, l0_7, rfl, ⟨x0_6, rfl⟩, F0_7⟩ := fits_cons F0_6
  obtain ⟨_, l0_8, rfl, ⟨x0_7, rfl⟩, F0_8⟩ := fits_cons F0_7
  obtain ⟨_, l0_9, rfl, ⟨x0_8, rfl⟩, F0_9⟩ := fits_cons F0_8
  obtain ⟨_, l0_10, rfl, ⟨x0_9, rfl⟩, F0_10⟩ := fits_cons F0_9
  obtain ⟨_, l0_11, rfl, ⟨x0_10, rfl⟩, F0_11⟩ := fits_cons F0_10
  obtain rfl := fits_nil F0_11
  obtain ⟨l1, rfl, F1_0⟩ := open_wide 8 (show flatW Try.prog 8 29 = some [.sl [some .u8]] by kernel_rfl) Try.underlying29 (hval 1 29 v1 rfl rfl) h1
  obtain ⟨_, l1_1, rfl, ⟨a1_0, len1_0, cap1_0, rfl, w1_0⟩, F1_1⟩ := fitsW_cons F1_0
  obtain rfl := fitsW_nil F1_1
  obtain ⟨a2, rfl, _, _⟩ := open_bool Try.underlying4 (hval 2 4 v2 rfl rfl) h2
  clear hA0 hval0
  refine (walk W x0_0 w0_0 x0_1 w0_1 x0_2 w0_2 x0_3 w0_3 x0_4 w0_4 x0_5 x0_6 x0_7 x0_8 x0_9 x0_10 a1_0 len1_0 cap1_0 w1_0 a2).mono fun e W' ⟨he, bel⟩ => ?_
  subst he
  exact ⟨_, rfl, _, _, _, [], _, [], hW', trodAll_mk1 (shut_bool Try.underlying4 _), (trodAll_cons_mk (Below.trod laidOut (by kernel_rfl) (of_decide_eq_true (by kernel_rfl)) k0 bel lt0) (trodAll_cons_mk (Below.trod laidOut (by kernel_rfl) (of_decide_eq_true (by kernel_rfl)) k1 bel lt1) (trodAll_cons_mk (Below.trod laidOut (by kernel_rfl) (of_decide_eq_true (by kernel_rfl)) k2 bel lt2) trodAll_mk0))), rfl, bel.frame _, fun h => by cases h⟩

theorem over : Rows.fnExactServeRow.holds Try.pinned (OpenSpec.ofChange Rows.fnExactServeSpec) :=
  OpenClaim.holds_of_wide 3 Try.f3 rfl rfl rfl rfl rfl rfl rfl ⟨rfl, rfl, rfl, rfl, rfl⟩ rfl rfl rfl rfl rfl (by kernel_rfl) Try.func3 (by kernel_rfl)
    (of_decide_eq_true (by kernel_rfl)) (by unfold Func.isWrapper; first | (rw [if_pos (by decide +kernel)]; kernel_rfl) | (rw [if_neg (by decide +kernel)]; exact ⟨rfl, rfl⟩))
    (fun os started H enc _ => lifted os started H enc)

theorem proved : Rows.FnExactServeSaid := over
#print axioms proved

end Go.Proofs.Ytblchdmemhhcbaa.fnExactServe
