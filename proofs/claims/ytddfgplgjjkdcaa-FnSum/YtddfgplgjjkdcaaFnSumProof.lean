/-
  For every code the law FnSum returns true: without D a sum has the low byte of the numbers' sum, and C tells the rest; a difference is the sum with all bits turned. There are no conditions.
-/
import Derived.Test.YtddfgplgjjkdcaaRows
import Derived.WalkKit
import Derived.ProofKit
import Derived.OpenShut
import Derived.ShutString
import Derived.ChangeOld
import Derived.Below
import Derived.Test.YtddfgplgjjkdcaaAluD
import Derived.Test.YtddfgplgjjkdcaaDraw2
import Derived.Test.YtddfgplgjjkdcaaCodeArg
namespace Go.Proofs.Ytddfgplgjjkdcaa.fnSum
open Go.ChangeShapes Go.WideShapes Go.ChangeAt Go.RowKit
open Go.ChangeMaps (open_string shut_string)
set_option linter.unusedVariables false

theorem own : ownKnob Try.prog.godebug = none := by kernel_rfl
theorem laidOut : laidOutB Try.prog = true := by kernel_rfl

/-- A slice of integers that came in: nil, or a row of cells. -/
def IsRow (k : IntKind) (w : World) (a : Option Addr) (len cap : Nat) (zs : List Int) : Prop :=
  (a = none ∧ len = 0 ∧ cap = 0 ∧ zs = []) ∨
  ∃ x, a = some x ∧ len ≤ cap ∧ cap ≤ maxLen ∧ zs.length = cap ∧ (∀ i, i < zs.length → w.cell? (x.add i) = some (.int k (zs.getD i 0))) ∧ ∀ n ∈ zs, (Lit.int k n).wf = true

theorem big_any (a : Option Addr) (len cap : Nat) (w : World) :
    Calls Try.prog 9 #[.slice a len cap] w fun e w' => e = .returned (.bool (decide ((1048576 : Int) < len))) ∧ w = w' := by
  go_enter Try.func9, Try.ntmps9
  go_wp2
  go_ret
  exact ⟨rfl, rfl⟩

theorem walk_big (a : Option Addr) (len cap : Nat) (w : World) (h : 1048576 < len) :
    Calls Try.prog 3 #[.slice a len cap] w fun e w' => e = .returned (.bool true) ∧ Below w.heap.size w w' := by
  have hbig : decide ((1048576 : Int) < len) = true := by simp; omega
  go_enter Try.func3, Try.ntmps3
  go_wp2_with fail
  refine (big_any _ _ _ _).mono ?_
  rintro e w' ⟨rfl, rfl⟩
  rw [hbig]
  clear hbig
  go_wp2
  go_ret
  exact ⟨rfl, Below.refl _ _⟩

set_option maxRecDepth 100000 in
set_option maxHeartbeats 1600000 in
theorem walk_all (a : Option Addr) (len cap : Nat) (z : List Int) (w : World) (hc : CodeRow w.heap.size w a len z) :
    Calls Try.prog 3 #[.slice a len cap] w fun e w' => e = .returned (.bool true) ∧ Below w.heap.size w w' := by
  have hl := hc.1
  have hbig : decide ((1048576 : Int) < len) = false := by simp; omega
  go_enter Try.func3, Try.ntmps3
  go_wp2_with fail
  refine (big_any _ _ _ _).mono ?_
  rintro e w' ⟨rfl, rfl⟩
  rw [hbig]
  clear hbig
  go_wp2_with fail
  refine (drawAdc_any w.heap.size a len cap z _ hc (Nat.le_refl _)).mono ?_
  rintro e w1 ⟨x, y, n, v, d, i, zf, c, x0, x1, y0, y1, rfl, hb1⟩
  have q1 := hb1
  obtain ⟨P, HP⟩ : ∃ P, Hid (plR x y c = P) := ⟨_, Lib.hid rfl⟩
  obtain ⟨p0, p1⟩ : 0 ≤ P ∧ P ≤ 255 := by rw [← HP.out]; exact plR_bd _ _ _
  have k0 : 0 ≤ 255 - y := by omega
  have k1 : 255 - y ≤ 255 := by omega
  have hN : bit7 P = decide (128 ≤ P) := rfl
  have hZ : isZ P = (P == 0) := rfl
  go_wp2_with fail
  refine (implAdc_plain _ _ _ _ _ _ _ _ x0 x1 y0 y1).mono ?_
  rintro e w2 ⟨rfl, hb2⟩
  have F_2 := Lib.hid (keep6 hb2 (new6 w1))
  have q2 := (q1.alloc q1.size _).trans (hb2.mono (by simp; have := q1.size; omega))
  obtain ⟨z_F, c_F0, c_F1, c_F2, c_F3, c_F4, c_F5⟩ := cells6 F_2.out
  rw [HP.out]
  cases hq : plC x y c
  · cases c
    · have hs : x + y = P := by have h1 := HP.out; have h2 : ¬ 255 < plS x y false := by simpa [plC] using hq
                                unfold plR plS at *; simp only [bI_false] at *; omega
      clear hq
      go_wp2_with fail
      refine (implSbc_plain _ _ _ _ _ _ _ _ x0 x1 y0 y1).mono ?_
      rintro e w3 ⟨rfl, hb3⟩
      have F_3 := Lib.hid (keep6 hb3 (keep6_alloc _ F_2.out))
      have G_3 := Lib.hid (keep6 hb3 (new6 w2))
      have q3 := (q2.alloc q2.size _).trans (hb3.mono (by simp; have := q2.size; omega))
      clear z_F c_F0 c_F1 c_F2 c_F3 c_F4 c_F5
      obtain ⟨z_F, c_F0, c_F1, c_F2, c_F3, c_F4, c_F5⟩ := cells6 F_3.out
      obtain ⟨z_G, c_G0, c_G1, c_G2, c_G3, c_G4, c_G5⟩ := cells6 G_3.out
      go_wp2_with fail
      refine (implAdc_plain _ _ _ _ _ _ _ _ x0 x1 k0 k1).mono ?_
      rintro e w4 ⟨rfl, hb4⟩
      have F_4 := Lib.hid (keep6 hb4 (keep6_alloc _ F_3.out))
      have G_4 := Lib.hid (keep6 hb4 (keep6_alloc _ G_3.out))
      have H_4 := Lib.hid (keep6 hb4 (new6 w3))
      have q4 := (q3.alloc q3.size _).trans (hb4.mono (by simp; have := q3.size; omega))
      clear z_F c_F0 c_F1 c_F2 c_F3 c_F4 c_F5 z_G c_G0 c_G1 c_G2 c_G3 c_G4 c_G5
      obtain ⟨z_F, c_F0, c_F1, c_F2, c_F3, c_F4, c_F5⟩ := cells6 F_4.out
      obtain ⟨z_G, c_G0, c_G1, c_G2, c_G3, c_G4, c_G5⟩ := cells6 G_4.out
      obtain ⟨z_H, c_H0, c_H1, c_H2, c_H3, c_H4, c_H5⟩ := cells6 H_4.out
      go_wp2
      go_ret
      exact ⟨rfl, q4.alloc q4.size _⟩
    · have hs : x + y + 1 = P := by have h1 := HP.out; have h2 : ¬ 255 < plS x y true := by simpa [plC] using hq
                                    unfold plR plS at *; simp only [bI_true] at *; omega
      clear hq
      go_wp2_with fail
      refine (implSbc_plain _ _ _ _ _ _ _ _ x0 x1 y0 y1).mono ?_
      rintro e w3 ⟨rfl, hb3⟩
      have F_3 := Lib.hid (keep6 hb3 (keep6_alloc _ F_2.out))
      have G_3 := Lib.hid (keep6 hb3 (new6 w2))
      have q3 := (q2.alloc q2.size _).trans (hb3.mono (by simp; have := q2.size; omega))
      clear z_F c_F0 c_F1 c_F2 c_F3 c_F4 c_F5
      obtain ⟨z_F, c_F0, c_F1, c_F2, c_F3, c_F4, c_F5⟩ := cells6 F_3.out
      obtain ⟨z_G, c_G0, c_G1, c_G2, c_G3, c_G4, c_G5⟩ := cells6 G_3.out
      go_wp2_with fail
      refine (implAdc_plain _ _ _ _ _ _ _ _ x0 x1 k0 k1).mono ?_
      rintro e w4 ⟨rfl, hb4⟩
      have F_4 := Lib.hid (keep6 hb4 (keep6_alloc _ F_3.out))
      have G_4 := Lib.hid (keep6 hb4 (keep6_alloc _ G_3.out))
      have H_4 := Lib.hid (keep6 hb4 (new6 w3))
      have q4 := (q3.alloc q3.size _).trans (hb4.mono (by simp; have := q3.size; omega))
      clear z_F c_F0 c_F1 c_F2 c_F3 c_F4 c_F5 z_G c_G0 c_G1 c_G2 c_G3 c_G4 c_G5
      obtain ⟨z_F, c_F0, c_F1, c_F2, c_F3, c_F4, c_F5⟩ := cells6 F_4.out
      obtain ⟨z_G, c_G0, c_G1, c_G2, c_G3, c_G4, c_G5⟩ := cells6 G_4.out
      obtain ⟨z_H, c_H0, c_H1, c_H2, c_H3, c_H4, c_H5⟩ := cells6 H_4.out
      go_wp2
      go_ret
      exact ⟨rfl, q4.alloc q4.size _⟩
  · cases c
    · have hs : x + y = P + 256 := by have h1 := HP.out; have h2 : 255 < plS x y false := by simpa [plC] using hq
                                      unfold plR plS at *; simp only [bI_false] at *; omega
      clear hq
      go_wp2_with fail
      refine (implSbc_plain _ _ _ _ _ _ _ _ x0 x1 y0 y1).mono ?_
      rintro e w3 ⟨rfl, hb3⟩
      have F_3 := Lib.hid (keep6 hb3 (keep6_alloc _ F_2.out))
      have G_3 := Lib.hid (keep6 hb3 (new6 w2))
      have q3 := (q2.alloc q2.size _).trans (hb3.mono (by simp; have := q2.size; omega))
      clear z_F c_F0 c_F1 c_F2 c_F3 c_F4 c_F5
      obtain ⟨z_F, c_F0, c_F1, c_F2, c_F3, c_F4, c_F5⟩ := cells6 F_3.out
      obtain ⟨z_G, c_G0, c_G1, c_G2, c_G3, c_G4, c_G5⟩ := cells6 G_3.out
      go_wp2_with fail
      refine (implAdc_plain _ _ _ _ _ _ _ _ x0 x1 k0 k1).mono ?_
      rintro e w4 ⟨rfl, hb4⟩
      have F_4 := Lib.hid (keep6 hb4 (keep6_alloc _ F_3.out))
      have G_4 := Lib.hid (keep6 hb4 (keep6_alloc _ G_3.out))
      have H_4 := Lib.hid (keep6 hb4 (new6 w3))
      have q4 := (q3.alloc q3.size _).trans (hb4.mono (by simp; have := q3.size; omega))
      clear z_F c_F0 c_F1 c_F2 c_F3 c_F4 c_F5 z_G c_G0 c_G1 c_G2 c_G3 c_G4 c_G5
      obtain ⟨z_F, c_F0, c_F1, c_F2, c_F3, c_F4, c_F5⟩ := cells6 F_4.out
      obtain ⟨z_G, c_G0, c_G1, c_G2, c_G3, c_G4, c_G5⟩ := cells6 G_4.out
      obtain ⟨z_H, c_H0, c_H1, c_H2, c_H3, c_H4, c_H5⟩ := cells6 H_4.out
      go_wp2
      go_ret
      exact ⟨rfl, q4.alloc q4.size _⟩
    · have hs : x + y + 1 = P + 256 := by have h1 := HP.out; have h2 : 255 < plS x y true := by simpa [plC] using hq
                                          unfold plR plS at *; simp only [bI_true] at *; omega
      clear hq
      go_wp2_with fail
      refine (implSbc_plain _ _ _ _ _ _ _ _ x0 x1 y0 y1).mono ?_
      rintro e w3 ⟨rfl, hb3⟩
      have F_3 := Lib.hid (keep6 hb3 (keep6_alloc _ F_2.out))
      have G_3 := Lib.hid (keep6 hb3 (new6 w2))
      have q3 := (q2.alloc q2.size _).trans (hb3.mono (by simp; have := q2.size; omega))
      clear z_F c_F0 c_F1 c_F2 c_F3 c_F4 c_F5
      obtain ⟨z_F, c_F0, c_F1, c_F2, c_F3, c_F4, c_F5⟩ := cells6 F_3.out
      obtain ⟨z_G, c_G0, c_G1, c_G2, c_G3, c_G4, c_G5⟩ := cells6 G_3.out
      go_wp2_with fail
      refine (implAdc_plain _ _ _ _ _ _ _ _ x0 x1 k0 k1).mono ?_
      rintro e w4 ⟨rfl, hb4⟩
      have F_4 := Lib.hid (keep6 hb4 (keep6_alloc _ F_3.out))
      have G_4 := Lib.hid (keep6 hb4 (keep6_alloc _ G_3.out))
      have H_4 := Lib.hid (keep6 hb4 (new6 w3))
      have q4 := (q3.alloc q3.size _).trans (hb4.mono (by simp; have := q3.size; omega))
      clear z_F c_F0 c_F1 c_F2 c_F3 c_F4 c_F5 z_G c_G0 c_G1 c_G2 c_G3 c_G4 c_G5
      obtain ⟨z_F, c_F0, c_F1, c_F2, c_F3, c_F4, c_F5⟩ := cells6 F_4.out
      obtain ⟨z_G, c_G0, c_G1, c_G2, c_G3, c_G4, c_G5⟩ := cells6 G_4.out
      obtain ⟨z_H, c_H0, c_H1, c_H2, c_H3, c_H4, c_H5⟩ := cells6 H_4.out
      go_wp2
      go_ret
      exact ⟨rfl, q4.alloc q4.size _⟩

theorem walk (w : World) (a0 : Option Addr) (len0 cap0 : Nat) (z0 : List Int) (w0 : IsRow .u8 w a0 len0 cap0 z0) :
    Calls Try.prog 3 #[.slice a0 len0 cap0] w fun e w' => e = .returned (.bool true) ∧ Below w.heap.size w w' := by
  by_cases hl : len0 ≤ 1048576
  · exact walk_all a0 len0 cap0 z0 w (code_of (show ByteRow w a0 len0 cap0 z0 from w0) hl)
  · exact walk_big a0 len0 cap0 w (by omega)

set_option maxRecDepth 100000 in
theorem lifted (os : Os) (started : os.Started) (H : Type) (enc : TypeId × Value → H) :
    ReturnsInHanded {} Try.checked os 3 .any (Rows.fnSumSpec.pre6 enc Try.prog Try.f3 Rows.fnSumRow.domain false) (Rows.fnSumSpec.post enc Try.prog Try.f3 false true false false) := by
  refine returnsInHanded_of_change (C := Try.checked) own started (by kernel_rfl) Try.func3
    (ChangeSpec.witness6 (enc := enc) (C := Try.checked) false ⟨#[], #[.slice none 0 0], []⟩ 8 (by kernel_rfl) (by kernel_rfl) (by kernel_rfl) (by kernel_rfl)) ?_
  intro W base args ds gs before hval0 hW hcnd _
  have hval : ∀ (j : Nat) t v, Try.f3.params[j]? = some t → args[j]? = some v → Value.okWide Try.prog W .any base t v := hval0
  have hW' := hW
  obtain ⟨p, q, hA0, hV, rfl, hfz, hnd⟩ := hW
  have hA : DataW.TrodAll enc Try.prog W 0 (fun _ => true) true Try.f3.params.toList args.toList ds p := hA0
  rw [Try.params3] at hA hval
  obtain ⟨v0, vs0, d0, ds0, p0, q0, hargs, rfl, rfl, h0, r0⟩ := trodAll_cons hA
  obtain ⟨rfl, rfl, rfl⟩ := trodAll_nil r0
  obtain rfl : args = #[v0] := by cases args; simp_all
  obtain ⟨rfl, rfl⟩ := trodVars_none hV
  have k0 := h0
  have lt0 : ∀ x ∈ p0, x.block < W.heap.size := by obtain ⟨m, hm⟩ := k0; exact DataW.trod_lt m _ _ _ hm
  obtain ⟨a0, len0, cap0, rfl⟩ := okWide_slice Try.underlying22 (hval 0 22 v0 rfl rfl)
  obtain ⟨z0, w0⟩ : ∃ zs, IsRow .u8 W a0 len0 cap0 zs := by
    obtain ⟨fuel, hf⟩ := h0
    rcases open_ints Try.underlying22 Try.underlying5 (by kernel_rfl) hf with ⟨hcs, _⟩ | ⟨x, l, c, zs, hcs, _, hl, hm, hz, _, hcell, hwz⟩
    · simp [Value.cells] at hcs
      obtain ⟨rfl, rfl, rfl⟩ := hcs
      exact ⟨[], .inl ⟨rfl, rfl, rfl, rfl⟩⟩
    · simp [Value.cells] at hcs
      obtain ⟨rfl, rfl, rfl⟩ := hcs
      exact ⟨zs, .inr ⟨_, rfl, hl, hm, by simpa using hz, hcell, hwz⟩⟩
  clear hA0 hval0
  refine (walk W a0 len0 cap0 z0 w0).mono fun e W' ⟨he, bel⟩ => ?_
  subst he
  exact ⟨_, rfl, _, _, _, [], _, [], hW', trodAll_mk1 (shut_bool Try.underlying4 _), (trodAll_cons_mk (Below.trod laidOut (by kernel_rfl) (of_decide_eq_true (by kernel_rfl)) k0 bel lt0) trodAll_mk0), rfl, bel.frame _, fun h => by cases h⟩

theorem over : Rows.fnSumRow.holds Try.pinned (OpenSpec.ofChange Rows.fnSumSpec) :=
  OpenClaim.holds_of_wide 3 Try.f3 rfl rfl rfl rfl rfl rfl rfl ⟨rfl, rfl, rfl, rfl, rfl⟩ rfl rfl rfl rfl rfl (by kernel_rfl) Try.func3 (by kernel_rfl)
    (of_decide_eq_true (by kernel_rfl)) (by unfold Func.isWrapper; first | (rw [if_pos (by decide +kernel)]; kernel_rfl) | (rw [if_neg (by decide +kernel)]; exact ⟨rfl, rfl⟩))
    (fun os started H enc _ => lifted os started H enc)

theorem proved : Rows.FnSumSaid := over
#print axioms proved
end Go.Proofs.Ytddfgplgjjkdcaa.fnSum
