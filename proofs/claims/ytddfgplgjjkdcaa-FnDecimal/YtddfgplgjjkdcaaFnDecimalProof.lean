/-
  For every code the law FnDecimal returns true: two numbers of two decimal digits add decimally with D, and are taken from one another. There are no conditions.
-/
import Derived.Test.YtddfgplgjjkdcaaRows
import Derived.WalkKit
import Derived.ProofKit
import Derived.OpenShut
import Derived.ShutString
import Derived.ChangeOld
import Derived.Below
import Derived.Test.YtddfgplgjjkdcaaAluD
import Derived.Test.YtddfgplgjjkdcaaAluLaw
import Derived.Test.YtddfgplgjjkdcaaDraw2
import Derived.Test.YtddfgplgjjkdcaaCodeArg
namespace Go.Proofs.Ytddfgplgjjkdcaa.fnDecimal
open Go.ChangeShapes Go.WideShapes Go.ChangeAt Go.RowKit
open Go.ChangeMaps (open_string shut_string)
set_option linter.unusedVariables false

theorem own : ownKnob Try.prog.godebug = none := by kernel_rfl
theorem laidOut : laidOutB Try.prog = true := by kernel_rfl

/-- A slice of integers that came in: nil, or a row of cells. -/
def IsRow (k : IntKind) (w : World) (a : Option Addr) (len cap : Nat) (zs : List Int) : Prop :=
  (a = none ∧ len = 0 ∧ cap = 0 ∧ zs = []) ∨
  ∃ x, a = some x ∧ len ≤ cap ∧ cap ≤ maxLen ∧ zs.length = cap ∧ (∀ i, i < zs.length → w.cell? (x.add i) = some (.int k (zs.getD i 0))) ∧ ∀ n ∈ zs, (Lit.int k n).wf = true

/-- The law's own 'at': a byte of the code, or one by the place. -/
def DrewAt (w : World) (e : Ending) (w' : World) : Prop := ∃ x : Int, 0 ≤ x ∧ x ≤ 255 ∧ e = .returned (.int .i64 x) ∧ w = w'

theorem at_any (n₀ : Nat) (a : Option Addr) (len cap k : Nat) (z : List Int) (w : World) (hc : CodeRow n₀ w a len z) (hk : k ≤ 1000) (j : Int) (hj : j = (k : Int)) :
    Calls Try.prog 13 #[.slice a len cap, .int .i64 j] w (DrewAt w) := by
  subst hj
  obtain ⟨hl, hr⟩ := hc
  have HR := Lib.hid hr
  clear hr
  by_cases hp : k < len
  · obtain ⟨b, off, rfl, hbn, hcell⟩ := HR.out (by omega)
    obtain ⟨e1, e2, e3⟩ := hcell k hp
    clear hcell
    go_enter Try.func13, Try.ntmps13
    go_wp2
    go_ret
    exact ⟨_, e2, e3, rfl, rfl⟩
  · go_enter Try.func13, Try.ntmps13
    go_wp2
    go_ret
    exact ⟨((k : Int) * 7 + len) % 256, by omega, by omega, rfl, rfl⟩

theorem sub_form (X Y M D : Int) (h1 : (X - Y + 100) % 100 = M) (h2 : M / 10 * 16 + M % 10 = D) : (D == (X - Y) % 100 / 10 * 16 + (X - Y) % 10) = true := by
  have e1 : (X - Y) % 100 = M := by omega
  have e2 : (X - Y) % 10 = M % 10 := by omega
  rw [e1, e2, h2]
  exact beq_self_eq_true D

theorem big_any (a : Option Addr) (len cap : Nat) (w : World) :
    Calls Try.prog 9 #[.slice a len cap] w fun e w' => e = .returned (.bool (decide ((1048576 : Int) < len))) ∧ w = w' := by
  go_enter Try.func9, Try.ntmps9
  go_wp2
  go_ret
  exact ⟨rfl, rfl⟩

theorem walk_big (a : Option Addr) (len cap : Nat) (w : World) (h : 1048576 < len) :
    Calls Try.prog 4 #[.slice a len cap] w fun e w' => e = .returned (.bool true) ∧ Below w.heap.size w w' := by
  have hbig : decide ((1048576 : Int) < len) = true := by simp; omega
  go_enter Try.func4, Try.ntmps4
  go_wp2_with fail
  refine (big_any _ _ _ _).mono ?_
  rintro e w' ⟨rfl, rfl⟩
  rw [hbig]
  clear hbig
  go_wp2
  go_ret
  exact ⟨rfl, Below.refl _ _⟩

set_option maxRecDepth 100000 in
set_option maxHeartbeats 1600000 in
theorem walk_all (a : Option Addr) (len cap : Nat) (z : List Int) (w : World) (hc : CodeRow w.heap.size w a len z) :
    Calls Try.prog 4 #[.slice a len cap] w fun e w' => e = .returned (.bool true) ∧ Below w.heap.size w w' := by
  have hl := hc.1
  have hbig : decide ((1048576 : Int) < len) = false := by simp; omega
  go_enter Try.func4, Try.ntmps4
  go_wp2_with fail
  refine (big_any _ _ _ _).mono ?_
  rintro e w' ⟨rfl, rfl⟩
  rw [hbig]
  clear hbig
  go_wp2_with fail
  refine (at_any w.heap.size a len cap 0 z _ hc (by omega) _ (by go_num)).mono ?_
  rintro e w' ⟨s, s0, s1, rfl, rfl⟩
  obtain ⟨X, hX⟩ : ∃ X, s % 100 = X := ⟨_, rfl⟩
  obtain ⟨X0, X1⟩ : 0 ≤ X ∧ X ≤ 99 := by omega
  go_wp2_with fail
  refine (at_any w.heap.size a len cap 1 z _ hc (by omega) _ (by go_num)).mono ?_
  rintro e w' ⟨t, t0, t1, rfl, rfl⟩
  rw [hX]
  clear hX s0 s1
  obtain ⟨Y, hY⟩ : ∃ Y, t % 100 = Y := ⟨_, rfl⟩
  obtain ⟨Y0, Y1⟩ : 0 ≤ Y ∧ Y ≤ 99 := by omega
  obtain ⟨A, hA⟩ : ∃ A, X / 10 * 16 + X % 10 = A := ⟨_, rfl⟩
  obtain ⟨A0, A1⟩ : 0 ≤ A ∧ A ≤ 255 := by omega
  obtain ⟨B, hB⟩ : ∃ B, Y / 10 * 16 + Y % 10 = B := ⟨_, rfl⟩
  obtain ⟨B0, B1⟩ : 0 ≤ B ∧ B ≤ 255 := by omega
  go_wp2_with fail
  refine (at_any w.heap.size a len cap 2 z _ hc (by omega) _ (by go_num)).mono ?_
  rintro e w' ⟨u, u0, u1, rfl, rfl⟩
  have T := Lib.hid (dec_sub X Y X0 X1 Y0 Y1)
  have U := Lib.hid (fun c => dec_add X Y c X0 X1 Y0 Y1)
  rw [hA, hB] at T U
  rw [hY]
  clear hY t0 t1 hA hB
  obtain ⟨c, hcc⟩ : ∃ c, (u % 2 == 1) = c := ⟨_, rfl⟩
  obtain ⟨M, HM⟩ : ∃ M, Hid ((X - Y + 100) % 100 = M) := ⟨_, Lib.hid rfl⟩
  obtain ⟨M0, M1⟩ : 0 ≤ M ∧ M ≤ 99 := by have := HM.out; omega
  obtain ⟨D, HD⟩ : ∃ D, Hid (M / 10 * 16 + M % 10 = D) := ⟨_, Lib.hid rfl⟩
  rw [HM.out, HD.out] at T
  obtain ⟨D0, D1⟩ : 0 ≤ D ∧ D ≤ 255 := by have := HD.out; omega
  cases c
  · obtain ⟨S, HS⟩ : ∃ S, Hid ((X + Y) % 100 / 10 * 16 + (X + Y) % 10 = S) := ⟨_, Lib.hid rfl⟩
    have US := Lib.hid (show dcT A B false % 256 = S by rw [(U.out false).1, bI_false, Int.add_zero]; exact HS.out)
    have UC := Lib.hid (show decide (255 < dcT A B false) = decide (100 ≤ X + Y) by have h := (U.out false).2; rw [bI_false, Int.add_zero] at h; rw [Bool.eq_iff_iff, decide_eq_true_iff, decide_eq_true_iff]; exact h)
    obtain ⟨S0, S1⟩ : 0 ≤ S ∧ S ≤ 255 := by rw [← US.out]; omega
    clear U
    go_wp2_with fail
    refine (implAdc_dec _ _ _ _ _ _ _ _ A0 A1 B0 B1).mono ?_
    rintro e w1 ⟨rfl, hb1⟩
    have F_1 := Lib.hid (keep6 hb1 (new6 w))
    have q1 := ((Below.refl w.heap.size w).alloc (by simp) _).trans (hb1.mono (by simp))
    obtain ⟨z_F, c_F0, c_F1, c_F2, c_F3, c_F4, c_F5⟩ := cells6 F_1.out
    rw [US.out, UC.out]
    clear hcc u0 u1
    go_wp2_with fail
    refine (implSbc_dec _ _ _ _ _ _ _ _ A0 A1 B0 B1).mono ?_
    rintro e w2 ⟨rfl, hb2⟩
    have F_2 := Lib.hid (keep6 hb2 (keep6_alloc _ F_1.out))
    have G_2 := Lib.hid (keep6 hb2 (new6 w1))
    have q2 := (q1.alloc q1.size _).trans (hb2.mono (by simp; have := q1.size; omega))
    clear z_F c_F0 c_F1 c_F2 c_F3 c_F4 c_F5
    obtain ⟨z_F, c_F0, c_F1, c_F2, c_F3, c_F4, c_F5⟩ := cells6 F_2.out
    obtain ⟨z_G, c_G0, c_G1, c_G2, c_G3, c_G4, c_G5⟩ := cells6 G_2.out
    rw [T.out.1, T.out.2]
    clear A0 A1 B0 B1 M0 M1
    have hS : (S == (X + Y) % 100 / 10 * 16 + (X + Y) % 10) = true := by rw [HS.out]; exact beq_self_eq_true S
    have hD := sub_form X Y M D HM.out HD.out
    go_wp2
    go_ret
    exact ⟨rfl, q2.alloc q2.size _⟩
  · obtain ⟨S, HS⟩ : ∃ S, Hid ((X + Y + 1) % 100 / 10 * 16 + (X + Y + 1) % 10 = S) := ⟨_, Lib.hid rfl⟩
    have US := Lib.hid (show dcT A B true % 256 = S by rw [(U.out true).1, bI_true]; exact HS.out)
    have UC := Lib.hid (show decide (255 < dcT A B true) = decide (100 ≤ X + Y + 1) by have h := (U.out true).2; rw [bI_true] at h; rw [Bool.eq_iff_iff, decide_eq_true_iff, decide_eq_true_iff]; exact h)
    obtain ⟨S0, S1⟩ : 0 ≤ S ∧ S ≤ 255 := by rw [← US.out]; omega
    clear U
    go_wp2_with fail
    refine (implAdc_dec _ _ _ _ _ _ _ _ A0 A1 B0 B1).mono ?_
    rintro e w1 ⟨rfl, hb1⟩
    have F_1 := Lib.hid (keep6 hb1 (new6 w))
    have q1 := ((Below.refl w.heap.size w).alloc (by simp) _).trans (hb1.mono (by simp))
    obtain ⟨z_F, c_F0, c_F1, c_F2, c_F3, c_F4, c_F5⟩ := cells6 F_1.out
    rw [US.out, UC.out]
    clear hcc u0 u1
    go_wp2_with fail
    refine (implSbc_dec _ _ _ _ _ _ _ _ A0 A1 B0 B1).mono ?_
    rintro e w2 ⟨rfl, hb2⟩
    have F_2 := Lib.hid (keep6 hb2 (keep6_alloc _ F_1.out))
    have G_2 := Lib.hid (keep6 hb2 (new6 w1))
    have q2 := (q1.alloc q1.size _).trans (hb2.mono (by simp; have := q1.size; omega))
    clear z_F c_F0 c_F1 c_F2 c_F3 c_F4 c_F5
    obtain ⟨z_F, c_F0, c_F1, c_F2, c_F3, c_F4, c_F5⟩ := cells6 F_2.out
    obtain ⟨z_G, c_G0, c_G1, c_G2, c_G3, c_G4, c_G5⟩ := cells6 G_2.out
    rw [T.out.1, T.out.2]
    clear A0 A1 B0 B1 M0 M1
    have hS : (S == (X + Y + 1) % 100 / 10 * 16 + (X + Y + 1) % 10) = true := by rw [HS.out]; exact beq_self_eq_true S
    have hD := sub_form X Y M D HM.out HD.out
    go_wp2
    go_ret
    exact ⟨rfl, q2.alloc q2.size _⟩

theorem walk (w : World) (a0 : Option Addr) (len0 cap0 : Nat) (z0 : List Int) (w0 : IsRow .u8 w a0 len0 cap0 z0) :
    Calls Try.prog 4 #[.slice a0 len0 cap0] w fun e w' => e = .returned (.bool true) ∧ Below w.heap.size w w' := by
  by_cases hl : len0 ≤ 1048576
  · exact walk_all a0 len0 cap0 z0 w (code_of (show ByteRow w a0 len0 cap0 z0 from w0) hl)
  · exact walk_big a0 len0 cap0 w (by omega)

set_option maxRecDepth 100000 in
theorem lifted (os : Os) (started : os.Started) (H : Type) (enc : TypeId × Value → H) :
    ReturnsInHanded {} Try.checked os 4 .any (Rows.fnDecimalSpec.pre6 enc Try.prog Try.f4 Rows.fnDecimalRow.domain false) (Rows.fnDecimalSpec.post enc Try.prog Try.f4 false true false false) := by
  refine returnsInHanded_of_change (C := Try.checked) own started (by kernel_rfl) Try.func4
    (ChangeSpec.witness6 (enc := enc) (C := Try.checked) false ⟨#[], #[.slice none 0 0], []⟩ 8 (by kernel_rfl) (by kernel_rfl) (by kernel_rfl) (by kernel_rfl)) ?_
  intro W base args ds gs before hval0 hW hcnd _
  have hval : ∀ (j : Nat) t v, Try.f4.params[j]? = some t → args[j]? = some v → Value.okWide Try.prog W .any base t v := hval0
  have hW' := hW
  obtain ⟨p, q, hA0, hV, rfl, hfz, hnd⟩ := hW
  have hA : DataW.TrodAll enc Try.prog W 0 (fun _ => true) true Try.f4.params.toList args.toList ds p := hA0
  rw [Try.params4] at hA hval
  obtain ⟨v0, vs0, d0, ds0, p0, q0, hargs, rfl, rfl, h0, r0⟩ := trodAll_cons hA
  obtain ⟨rfl, rfl, rfl⟩ := trodAll_nil r0
  obtain rfl : args = #[v0] := by cases args; simp_all
  obtain ⟨rfl, rfl⟩ := trodVars_none hV
  have k0 := h0
  have lt0 : ∀ x ∈ p0, x.block < W.heap.size := by obtain ⟨m, hm⟩ := k0; exact DataW.trod_lt m _ _ _ hm
  obtain ⟨a0, len0, cap0, rfl⟩ := okWide_slice Try.underlying22 (hval 0 22 v0 rfl rfl)
  obtain ⟨z0, w0⟩ : ∃ zs, IsRow .u8 W a0 len0 cap0 zs := by
    obtain ⟨fuel, hf⟩ := h0
    rcases open_ints Try.underlying22 Try.underlying5 (by kernel_rfl) hf with ⟨hcs, _⟩ | ⟨x, l, c, zs, hcs, _, hl, hm, hz, _, hcell, hwz⟩
    · simp [Value.cells] at hcs
      obtain ⟨rfl, rfl, rfl⟩ := hcs
      exact ⟨[], .inl ⟨rfl, rfl, rfl, rfl⟩⟩
    · simp [Value.cells] at hcs
      obtain ⟨rfl, rfl, rfl⟩ := hcs
      exact ⟨zs, .inr ⟨_, rfl, hl, hm, by simpa using hz, hcell, hwz⟩⟩
  clear hA0 hval0
  refine (walk W a0 len0 cap0 z0 w0).mono fun e W' ⟨he, bel⟩ => ?_
  subst he
  exact ⟨_, rfl, _, _, _, [], _, [], hW', trodAll_mk1 (shut_bool Try.underlying4 _), (trodAll_cons_mk (Below.trod laidOut (by kernel_rfl) (of_decide_eq_true (by kernel_rfl)) k0 bel lt0) trodAll_mk0), rfl, bel.frame _, fun h => by cases h⟩

theorem over : Rows.fnDecimalRow.holds Try.pinned (OpenSpec.ofChange Rows.fnDecimalSpec) :=
  OpenClaim.holds_of_wide 4 Try.f4 rfl rfl rfl rfl rfl rfl rfl ⟨rfl, rfl, rfl, rfl, rfl⟩ rfl rfl rfl rfl rfl (by kernel_rfl) Try.func4 (by kernel_rfl)
    (of_decide_eq_true (by kernel_rfl)) (by unfold Func.isWrapper; first | (rw [if_pos (by decide +kernel)]; kernel_rfl) | (rw [if_neg (by decide +kernel)]; exact ⟨rfl, rfl⟩))
    (fun os started H enc _ => lifted os started H enc)

theorem proved : Rows.FnDecimalSaid := over
#print axioms proved
end Go.Proofs.Ytddfgplgjjkdcaa.fnDecimal
