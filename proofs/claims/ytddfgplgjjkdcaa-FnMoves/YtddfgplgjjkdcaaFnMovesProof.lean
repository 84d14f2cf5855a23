/-
  For every code the law FnMoves returns true: a byte that is moved up and down with its carry is as it was; without it, but for the bit that fell out. There are no conditions.
-/
import Derived.Test.YtddfgplgjjkdcaaRows
import Derived.WalkKit
import Derived.ProofKit
import Derived.OpenShut
import Derived.ShutString
import Derived.ChangeOld
import Derived.Below
import Derived.Test.YtddfgplgjjkdcaaAluE
import Derived.Test.YtddfgplgjjkdcaaAluLaw
import Derived.Test.YtddfgplgjjkdcaaDraw2
import Derived.Test.YtddfgplgjjkdcaaCodeArg
namespace Go.Proofs.Ytddfgplgjjkdcaa.fnMoves
open Go.ChangeShapes Go.WideShapes Go.ChangeAt Go.RowKit
open Go.ChangeMaps (open_string shut_string)
set_option linter.unusedVariables false

theorem own : ownKnob Try.prog.godebug = none := by kernel_rfl
theorem laidOut : laidOutB Try.prog = true := by kernel_rfl

/-- A slice of integers that came in: nil, or a row of cells. -/
def IsRow (k : IntKind) (w : World) (a : Option Addr) (len cap : Nat) (zs : List Int) : Prop :=
  (a = none ∧ len = 0 ∧ cap = 0 ∧ zs = []) ∨
  ∃ x, a = some x ∧ len ≤ cap ∧ cap ≤ maxLen ∧ zs.length = cap ∧ (∀ i, i < zs.length → w.cell? (x.add i) = some (.int k (zs.getD i 0))) ∧ ∀ n ∈ zs, (Lit.int k n).wf = true

theorem big_any (a : Option Addr) (len cap : Nat) (w : World) :
    Calls Try.prog 9 #[.slice a len cap] w fun e w' => e = .returned (.bool (decide ((1048576 : Int) < len))) ∧ w = w' := by
  go_enter Try.func9, Try.ntmps9
  go_wp2
  go_ret
  exact ⟨rfl, rfl⟩

theorem walk_big (a : Option Addr) (len cap : Nat) (w : World) (h : 1048576 < len) :
    Calls Try.prog 5 #[.slice a len cap] w fun e w' => e = .returned (.bool true) ∧ Below w.heap.size w w' := by
  have hbig : decide ((1048576 : Int) < len) = true := by simp; omega
  go_enter Try.func5, Try.ntmps5
  go_wp2_with fail
  refine (big_any _ _ _ _).mono ?_
  rintro e w' ⟨rfl, rfl⟩
  rw [hbig]
  clear hbig
  go_wp2
  go_ret
  exact ⟨rfl, Below.refl _ _⟩

set_option maxRecDepth 100000 in
set_option maxHeartbeats 1600000 in
theorem walk_all (a : Option Addr) (len cap : Nat) (z : List Int) (w : World) (hc : CodeRow w.heap.size w a len z) :
    Calls Try.prog 5 #[.slice a len cap] w fun e w' => e = .returned (.bool true) ∧ Below w.heap.size w w' := by
  have hl := hc.1
  have hbig : decide ((1048576 : Int) < len) = false := by simp; omega
  go_enter Try.func5, Try.ntmps5
  go_wp2_with fail
  refine (big_any _ _ _ _).mono ?_
  rintro e w' ⟨rfl, rfl⟩
  rw [hbig]
  clear hbig
  go_wp2_with fail
  refine (drawRol_any w.heap.size a len cap z _ hc (Nat.le_refl _)).mono ?_
  rintro e w1 ⟨x, n, v, d, i, zf, c, x0, x1, rfl, hb1⟩
  have q1 := hb1
  obtain ⟨P, HP⟩ : ∃ P, Hid (mvR x true c = P) := ⟨_, Lib.hid rfl⟩
  obtain ⟨Q, HQ⟩ : ∃ Q, Hid (mvR x false c = Q) := ⟨_, Lib.hid rfl⟩
  obtain ⟨p0, p1⟩ : 0 ≤ P ∧ P ≤ 255 := by rw [← HP.out]; exact mvR_bd _ _ _ x0 x1
  obtain ⟨r0, r1⟩ : 0 ≤ Q ∧ Q ≤ 255 := by rw [← HQ.out]; exact mvR_bd _ _ _ x0 x1
  have M1 := Lib.hid (rol_ror x c x0 x1)
  have M2 := Lib.hid (ror_rol x c x0 x1)
  have hL : mvR x true false = x * 2 % 256 := by simp [mvR, bI]
  have hR : mvR x false false = x / 2 := by simp [mvR, bI]
  have hC1 : mvC x true = decide (128 ≤ x) := rfl
  have hC2 : mvC x false = (x % 2 == 1) := rfl
  have HC1 := Lib.hid hC1
  have HC2 := Lib.hid hC2
  rw [HP.out] at M1
  rw [HQ.out] at M2
  rw [HC1.out] at M1
  rw [HC2.out] at M2
  go_wp2_with fail
  refine (implRol_any _ _ _ _ _ _ _ x0 x1 _).mono ?_
  rintro e w2 ⟨rfl, hb2⟩
  have F_2 := Lib.hid (keep6 hb2 (new6 w1))
  have q2 := (q1.alloc q1.size _).trans (hb2.mono (by simp; have := q1.size; omega))
  obtain ⟨z_F, c_F0, c_F1, c_F2, c_F3, c_F4, c_F5⟩ := cells6 F_2.out
  rw [HP.out, HC1.out]
  go_wp2_with fail
  refine (implRor_any _ _ _ _ _ _ _ p0 p1 _).mono ?_
  rintro e w3 ⟨rfl, hb3⟩
  have F_3 := Lib.hid (keep6 hb3 (keep6_alloc _ F_2.out))
  have G_3 := Lib.hid (keep6 hb3 (new6 w2))
  have q3 := (q2.alloc q2.size _).trans (hb3.mono (by simp; have := q2.size; omega))
  clear z_F c_F0 c_F1 c_F2 c_F3 c_F4 c_F5
  obtain ⟨z_F, c_F0, c_F1, c_F2, c_F3, c_F4, c_F5⟩ := cells6 F_3.out
  rw [M1.out.1, M1.out.2]
  go_wp2_with fail
  refine (implRor_any _ _ _ _ _ _ _ x0 x1 _).mono ?_
  rintro e w4 ⟨rfl, hb4⟩
  have F_4 := Lib.hid (keep6 hb4 (keep6_alloc _ F_3.out))
  have G_4 := Lib.hid (keep6 hb4 (keep6_alloc _ G_3.out))
  have H_4 := Lib.hid (keep6 hb4 (new6 w3))
  have q4 := (q3.alloc q3.size _).trans (hb4.mono (by simp; have := q3.size; omega))
  clear z_F c_F0 c_F1 c_F2 c_F3 c_F4 c_F5
  obtain ⟨z_F, c_F0, c_F1, c_F2, c_F3, c_F4, c_F5⟩ := cells6 F_4.out
  rw [HQ.out, HC2.out]
  go_wp2_with fail
  refine (implRol_any _ _ _ _ _ _ _ r0 r1 _).mono ?_
  rintro e w5 ⟨rfl, hb5⟩
  have F_5 := Lib.hid (keep6 hb5 (keep6_alloc _ F_4.out))
  have G_5 := Lib.hid (keep6 hb5 (keep6_alloc _ G_4.out))
  have H_5 := Lib.hid (keep6 hb5 (keep6_alloc _ H_4.out))
  have U_5 := Lib.hid (keep6 hb5 (new6 w4))
  have q5 := (q4.alloc q4.size _).trans (hb5.mono (by simp; have := q4.size; omega))
  clear z_F c_F0 c_F1 c_F2 c_F3 c_F4 c_F5
  obtain ⟨z_F, c_F0, c_F1, c_F2, c_F3, c_F4, c_F5⟩ := cells6 F_5.out
  rw [M2.out.1, M2.out.2]
  go_wp2_with fail
  refine (implAsl_any _ _ _ _ _ _ _ x0 x1 _).mono ?_
  rintro e w6 ⟨rfl, hb6⟩
  have F_6 := Lib.hid (keep6 hb6 (keep6_alloc _ F_5.out))
  have G_6 := Lib.hid (keep6 hb6 (keep6_alloc _ G_5.out))
  have H_6 := Lib.hid (keep6 hb6 (keep6_alloc _ H_5.out))
  have U_6 := Lib.hid (keep6 hb6 (keep6_alloc _ U_5.out))
  have V_6 := Lib.hid (keep6 hb6 (new6 w5))
  have q6 := (q5.alloc q5.size _).trans (hb6.mono (by simp; have := q5.size; omega))
  clear z_F c_F0 c_F1 c_F2 c_F3 c_F4 c_F5
  obtain ⟨z_F, c_F0, c_F1, c_F2, c_F3, c_F4, c_F5⟩ := cells6 F_6.out
  rw [hL, HC1.out]
  go_wp2_with fail
  refine (implLsr_any _ _ _ _ _ _ _ x0 x1 _).mono ?_
  rintro e w7 ⟨rfl, hb7⟩
  have F_7 := Lib.hid (keep6 hb7 (keep6_alloc _ F_6.out))
  have G_7 := Lib.hid (keep6 hb7 (keep6_alloc _ G_6.out))
  have H_7 := Lib.hid (keep6 hb7 (keep6_alloc _ H_6.out))
  have U_7 := Lib.hid (keep6 hb7 (keep6_alloc _ U_6.out))
  have V_7 := Lib.hid (keep6 hb7 (keep6_alloc _ V_6.out))
  have L_7 := Lib.hid (keep6 hb7 (new6 w6))
  have q7 := (q6.alloc q6.size _).trans (hb7.mono (by simp; have := q6.size; omega))
  clear z_F c_F0 c_F1 c_F2 c_F3 c_F4 c_F5
  obtain ⟨z_F, c_F0, c_F1, c_F2, c_F3, c_F4, c_F5⟩ := cells6 F_7.out
  obtain ⟨z_H, c_H0, c_H1, c_H2, c_H3, c_H4, c_H5⟩ := cells6 H_7.out
  obtain ⟨z_V, c_V0, c_V1, c_V2, c_V3, c_V4, c_V5⟩ := cells6 V_7.out
  obtain ⟨z_L, c_L0, c_L1, c_L2, c_L3, c_L4, c_L5⟩ := cells6 L_7.out
  rw [hR, HC2.out]
  clear hL hR hC1 hC2
  go_wp2
  go_ret
  exact ⟨rfl, q7.alloc q7.size _⟩

theorem walk (w : World) (a0 : Option Addr) (len0 cap0 : Nat) (z0 : List Int) (w0 : IsRow .u8 w a0 len0 cap0 z0) :
    Calls Try.prog 5 #[.slice a0 len0 cap0] w fun e w' => e = .returned (.bool true) ∧ Below w.heap.size w w' := by
  by_cases hl : len0 ≤ 1048576
  · exact walk_all a0 len0 cap0 z0 w (code_of (show ByteRow w a0 len0 cap0 z0 from w0) hl)
  · exact walk_big a0 len0 cap0 w (by omega)

set_option maxRecDepth 100000 in
theorem lifted (os : Os) (started : os.Started) (H : Type) (enc : TypeId × Value → H) :
    ReturnsInHanded {} Try.checked os 5 .any (Rows.fnMovesSpec.pre6 enc Try.prog Try.f5 Rows.fnMovesRow.domain false) (Rows.fnMovesSpec.post enc Try.prog Try.f5 false true false false) := by
  refine returnsInHanded_of_change (C := Try.checked) own started (by kernel_rfl) Try.func5
    (ChangeSpec.witness6 (enc := enc) (C := Try.checked) false ⟨#[], #[.slice none 0 0], []⟩ 8 (by kernel_rfl) (by kernel_rfl) (by kernel_rfl) (by kernel_rfl)) ?_
  intro W base args ds gs before hval0 hW hcnd _
  have hval : ∀ (j : Nat) t v, Try.f5.params[j]? = some t → args[j]? = some v → Value.okWide Try.prog W .any base t v := hval0
  have hW' := hW
  obtain ⟨p, q, hA0, hV, rfl, hfz, hnd⟩ := hW
  have hA : DataW.TrodAll enc Try.prog W 0 (fun _ => true) true Try.f5.params.toList args.toList ds p := hA0
  rw [Try.params5] at hA hval
  obtain ⟨v0, vs0, d0, ds0, p0, q0, hargs, rfl, rfl, h0, r0⟩ := trodAll_cons hA
  obtain ⟨rfl, rfl, rfl⟩ := trodAll_nil r0
  obtain rfl : args = #[v0] := by cases args; simp_all
  obtain ⟨rfl, rfl⟩ := trodVars_none hV
  have k0 := h0
  have lt0 : ∀ x ∈ p0, x.block < W.heap.size := by obtain ⟨m, hm⟩ := k0; exact DataW.trod_lt m _ _ _ hm
  obtain ⟨a0, len0, cap0, rfl⟩ := okWide_slice Try.underlying22 (hval 0 22 v0 rfl rfl)
  obtain ⟨z0, w0⟩ : ∃ zs, IsRow .u8 W a0 len0 cap0 zs := by
    obtain ⟨fuel, hf⟩ := h0
    rcases open_ints Try.underlying22 Try.underlying5 (by kernel_rfl) hf with ⟨hcs, _⟩ | ⟨x, l, c, zs, hcs, _, hl, hm, hz, _, hcell, hwz⟩
    · simp [Value.cells] at hcs
      obtain ⟨rfl, rfl, rfl⟩ := hcs
      exact ⟨[], .inl ⟨rfl, rfl, rfl, rfl⟩⟩
    · simp [Value.cells] at hcs
      obtain ⟨rfl, rfl, rfl⟩ := hcs
      exact ⟨zs, .inr ⟨_, rfl, hl, hm, by simpa using hz, hcell, hwz⟩⟩
  clear hA0 hval0
  refine (walk W a0 len0 cap0 z0 w0).mono fun e W' ⟨he, bel⟩ => ?_
  subst he
  exact ⟨_, rfl, _, _, _, [], _, [], hW', trodAll_mk1 (shut_bool Try.underlying4 _), (trodAll_cons_mk (Below.trod laidOut (by kernel_rfl) (of_decide_eq_true (by kernel_rfl)) k0 bel lt0) trodAll_mk0), rfl, bel.frame _, fun h => by cases h⟩

theorem over : Rows.fnMovesRow.holds Try.pinned (OpenSpec.ofChange Rows.fnMovesSpec) :=
  OpenClaim.holds_of_wide 5 Try.f5 rfl rfl rfl rfl rfl rfl rfl ⟨rfl, rfl, rfl, rfl, rfl⟩ rfl rfl rfl rfl rfl (by kernel_rfl) Try.func5 (by kernel_rfl)
    (of_decide_eq_true (by kernel_rfl)) (by unfold Func.isWrapper; first | (rw [if_pos (by decide +kernel)]; kernel_rfl) | (rw [if_neg (by decide +kernel)]; exact ⟨rfl, rfl⟩))
    (fun os started H enc _ => lifted os started H enc)

theorem proved : Rows.FnMovesSaid := over
#print axioms proved
end Go.Proofs.Ytddfgplgjjkdcaa.fnMoves
