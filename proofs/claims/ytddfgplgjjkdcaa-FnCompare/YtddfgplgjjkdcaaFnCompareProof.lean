/-
  For every code the law FnCompare returns true: what is compared has the flags of a difference without D, but for V. There are no conditions.
-/
import Derived.Test.YtddfgplgjjkdcaaRows
import Derived.WalkKit
import Derived.ProofKit
import Derived.OpenShut
import Derived.ShutString
import Derived.ChangeOld
import Derived.Below
import Derived.Test.YtddfgplgjjkdcaaAluD
import Derived.Test.YtddfgplgjjkdcaaDraw2
import Derived.Test.YtddfgplgjjkdcaaAluX
import Derived.Test.YtddfgplgjjkdcaaKeep
import Derived.Test.YtddfgplgjjkdcaaCodeArg
namespace Go.Proofs.Ytddfgplgjjkdcaa.fnCompare
open Go.ChangeShapes Go.WideShapes Go.ChangeAt Go.RowKit
open Go.ChangeMaps (open_string shut_string)
set_option linter.unusedVariables false

theorem own : ownKnob Try.prog.godebug = none := by kernel_rfl
theorem laidOut : laidOutB Try.prog = true := by kernel_rfl

/-- A slice of integers that came in: nil, or a row of cells. -/
def IsRow (k : IntKind) (w : World) (a : Option Addr) (len cap : Nat) (zs : List Int) : Prop :=
  (a = none ∧ len = 0 ∧ cap = 0 ∧ zs = []) ∨
  ∃ x, a = some x ∧ len ≤ cap ∧ cap ≤ maxLen ∧ zs.length = cap ∧ (∀ i, i < zs.length → w.cell? (x.add i) = some (.int k (zs.getD i 0))) ∧ ∀ n ∈ zs, (Lit.int k n).wf = true

/-- What stands behind 'x, y := BitTest(a, b, f), NZ(dif, f)', whatever order was taken: two new boxes with these cells, and all that was there as it was. -/
def Both (W : World) (x y P : Int) (c : Bool) (p q : Value) (wc : World) : Prop :=
  ∃ bp bq : Nat, p = .pointer (some ⟨bp, 0, none⟩) ∧ q = .pointer (some ⟨bq, 0, none⟩) ∧ wc.cell? ⟨bp, 4, none⟩ = some (.bool (isZ (bits .and .u8 x y))) ∧ wc.cell? ⟨bp, 5, none⟩ = some (.bool c) ∧ wc.cell? ⟨bq, 0, none⟩ = some (.bool (bit7 P)) ∧ wc.cell? ⟨bq, 4, none⟩ = some (.bool (isZ P)) ∧ Below W.heap.size W wc

theorem sub_mod (x y : Int) : plR x (255 - y) true = (x - y) % 256 := by
  unfold plR plS; rw [bI_true]; omega

theorem sub_carry (x y : Int) : plC x (255 - y) true = cmC x y := by
  unfold plC plS cmC; rw [bI_true, Bool.eq_iff_iff, decide_eq_true_iff, decide_eq_true_iff]; omega

theorem big_any (a : Option Addr) (len cap : Nat) (w : World) :
    Calls Try.prog 9 #[.slice a len cap] w fun e w' => e = .returned (.bool (decide ((1048576 : Int) < len))) ∧ w = w' := by
  go_enter Try.func9, Try.ntmps9
  go_wp2
  go_ret
  exact ⟨rfl, rfl⟩

theorem walk_big (a : Option Addr) (len cap : Nat) (w : World) (h : 1048576 < len) :
    Calls Try.prog 7 #[.slice a len cap] w fun e w' => e = .returned (.bool true) ∧ Below w.heap.size w w' := by
  have hbig : decide ((1048576 : Int) < len) = true := by simp; omega
  go_enter Try.func7, Try.ntmps7
  go_wp2_with fail
  refine (big_any _ _ _ _).mono ?_
  rintro e w' ⟨rfl, rfl⟩
  rw [hbig]
  clear hbig
  go_wp2
  go_ret
  exact ⟨rfl, Below.refl _ _⟩

set_option maxRecDepth 100000 in
set_option maxHeartbeats 1600000 in
theorem walk_all (a : Option Addr) (len cap : Nat) (z : List Int) (w : World) (hc : CodeRow w.heap.size w a len z) :
    Calls Try.prog 7 #[.slice a len cap] w fun e w' => e = .returned (.bool true) ∧ Below w.heap.size w w' := by
  have hl := hc.1
  have hbig : decide ((1048576 : Int) < len) = false := by simp; omega
  go_enter Try.func7, Try.ntmps7
  go_wp2_with fail
  refine (big_any _ _ _ _).mono ?_
  rintro e w' ⟨rfl, rfl⟩
  rw [hbig]
  clear hbig
  go_wp2_with fail
  refine (drawCmp_any w.heap.size a len cap z _ hc (Nat.le_refl _)).mono ?_
  rintro e w1 ⟨x, y, n, v, d, i, zf, c, x0, x1, y0, y1, rfl, hb1⟩
  have q1 := hb1
  obtain ⟨P, HP⟩ : ∃ P, Hid ((x - y) % 256 = P) := ⟨_, Lib.hid rfl⟩
  obtain ⟨p0, p1⟩ : 0 ≤ P ∧ P ≤ 255 := by rw [← HP.out]; omega
  have HQ := Lib.hid ((sub_mod x y).trans HP.out)
  have HC := Lib.hid (sub_carry x y)
  go_wp2_with fail
  refine (implCmp_any _ _ _ _ _ _ _ _ x0 x1 y0 y1 _).mono ?_
  rintro e w2 ⟨rfl, hb2⟩
  have F_2 := Lib.hid (keep6 hb2 (new6 w1))
  have q2 := (q1.alloc q1.size _).trans (hb2.mono (by simp; have := q1.size; omega))
  obtain ⟨z_F, c_F0, c_F1, c_F2, c_F3, c_F4, c_F5⟩ := cells6 F_2.out
  rw [HP.out]
  go_wp2_with fail
  refine (implSbc_plain _ _ _ _ _ _ _ _ x0 x1 y0 y1).mono ?_
  rintro e w3 ⟨rfl, hb3⟩
  have F_3 := Lib.hid (keep6 hb3 (keep6_alloc _ F_2.out))
  have G_3 := Lib.hid (keep6 hb3 (new6 w2))
  have q3 := (q2.alloc q2.size _).trans (hb3.mono (by simp; have := q2.size; omega))
  clear z_F c_F0 c_F1 c_F2 c_F3 c_F4 c_F5
  obtain ⟨z_F, c_F0, c_F1, c_F2, c_F3, c_F4, c_F5⟩ := cells6 F_3.out
  obtain ⟨z_G, c_G0, c_G1, c_G2, c_G3, c_G4, c_G5⟩ := cells6 G_3.out
  rw [HQ.out, HC.out]
  have zF1 : w1.heap.size < w3.heap.size + 1 := by omega
  have zF2 : w1.heap.size < w3.heap.size + 1 + 1 := by omega
  have zF3 : w1.heap.size < w3.heap.size + 1 + 1 + 1 := by omega
  have zF4 : w1.heap.size < w3.heap.size + 1 + 1 + 1 + 1 := by omega
  have zF5 : w1.heap.size < w3.heap.size + 1 + 1 + 1 + 1 + 1 := by omega
  have zF6 : w1.heap.size < w3.heap.size + 1 + 1 + 1 + 1 + 1 + 1 := by omega
  have zF7 : w1.heap.size < w3.heap.size + 1 + 1 + 1 + 1 + 1 + 1 + 1 := by omega
  have hS3 := (cells6 F_3.out).2
  have q4 := q3.alloc q3.size (.cells #[.bool (bit7 P), .bool (plV x (255 - y) true), .bool false, .bool false, .bool (isZ P), .bool (cmC x y)] 25)
  go_wp2_with fail
  go_cut [9, 10] from 11 (fun p q wc => Both (w3.alloc (.cells #[.bool (bit7 P), .bool (plV x (255 - y) true), .bool false, .bool false, .bool (isZ P), .bool (cmC x y)] 25)) x y P c p q wc)
  case first =>
    go_region_held3 (fun w' => w'.cell? ⟨w1.heap.size, 0, none⟩ = some (.bool n) ∧ w'.cell? ⟨w1.heap.size, 1, none⟩ = some (.bool v) ∧ w'.cell? ⟨w1.heap.size, 2, none⟩ = some (.bool d) ∧ w'.cell? ⟨w1.heap.size, 3, none⟩ = some (.bool i) ∧ w'.cell? ⟨w1.heap.size, 4, none⟩ = some (.bool zf) ∧ w'.cell? ⟨w1.heap.size, 5, none⟩ = some (.bool c)) (((try dsimp only); (repeat (first | (with_reducible exact hS3) | (with_reducible refine six_alloc _ ?_) | (with_reducible refine six_drew ?_)))))
      (first | (go_at_call 25; refine (implBitTest_exact _ _ _ _ _ _ _ _ y0 y1 _).mono ?_; rintro e w' ⟨rfl, rfl⟩) | (go_at_call 26; refine (implNZ_exact _ _ _ _ _ _ _ _ p0 p1).mono ?_; rintro e w' ⟨rfl, rfl⟩))
    all_goals
      go_wp2_with fail
      go_meet
      case rel =>
        refine ⟨_, _, rfl, rfl, by simp [go_sem], by simp [go_sem], by simp [go_sem], by simp [go_sem], ?_⟩
        repeat (any_goals (first | (with_reducible exact Below.refl _ _) | (with_reducible refine Below.drew ?_) | (with_reducible refine Below.setCell ?_ ?_ _) | (with_reducible refine Below.alloc ?_ ?_ _)))
        all_goals (first | (simp; done) | (simp; omega))
  case rest =>
    obtain ⟨bp, bq, rfl, rfl, t0, t1, t2, t3, hbc⟩ := hcut
    have F_c := Lib.hid (keep6 hbc (keep6_alloc _ F_3.out))
    have G_c := Lib.hid (keep6 hbc (keep6_alloc _ G_3.out))
    have H_c := Lib.hid (keep6 hbc (new6 w3))
    clear z_F c_F0 c_F1 c_F2 c_F3 c_F4 c_F5 z_G c_G0 c_G1 c_G2 c_G3 c_G4 c_G5 hS3 zF1 zF2 zF3 zF4 zF5 zF6 zF7
    obtain ⟨e_F, c_F0, c_F1, c_F2, c_F3, c_F4, c_F5⟩ := cells6 F_c.out
    obtain ⟨e_G, c_G0, c_G1, c_G2, c_G3, c_G4, c_G5⟩ := cells6 G_c.out
    obtain ⟨e_H, c_H0, c_H1, c_H2, c_H3, c_H4, c_H5⟩ := cells6 H_c.out
    have hZ : isZ (bits .and .u8 x y) = (bits .and .u8 x y == 0) := rfl
    go_wp2
    go_ret
    exact ⟨rfl, q4.trans (hbc.mono q4.size)⟩

theorem walk (w : World) (a0 : Option Addr) (len0 cap0 : Nat) (z0 : List Int) (w0 : IsRow .u8 w a0 len0 cap0 z0) :
    Calls Try.prog 7 #[.slice a0 len0 cap0] w fun e w' => e = .returned (.bool true) ∧ Below w.heap.size w w' := by
  by_cases hl : len0 ≤ 1048576
  · exact walk_all a0 len0 cap0 z0 w (code_of (show ByteRow w a0 len0 cap0 z0 from w0) hl)
  · exact walk_big a0 len0 cap0 w (by omega)

set_option maxRecDepth 100000 in
theorem lifted (os : Os) (started : os.Started) (H : Type) (enc : TypeId × Value → H) :
    ReturnsInHanded {} Try.checked os 7 .any (Rows.fnCompareSpec.pre6 enc Try.prog Try.f7 Rows.fnCompareRow.domain false) (Rows.fnCompareSpec.post enc Try.prog Try.f7 false true false false) := by
  refine returnsInHanded_of_change (C := Try.checked) own started (by kernel_rfl) Try.func7
    (ChangeSpec.witness6 (enc := enc) (C := Try.checked) false ⟨#[], #[.slice none 0 0], []⟩ 8 (by kernel_rfl) (by kernel_rfl) (by kernel_rfl) (by kernel_rfl)) ?_
  intro W base args ds gs before hval0 hW hcnd _
  have hval : ∀ (j : Nat) t v, Try.f7.params[j]? = some t → args[j]? = some v → Value.okWide Try.prog W .any base t v := hval0
  have hW' := hW
  obtain ⟨p, q, hA0, hV, rfl, hfz, hnd⟩ := hW
  have hA : DataW.TrodAll enc Try.prog W 0 (fun _ => true) true Try.f7.params.toList args.toList ds p := hA0
  rw [Try.params7] at hA hval
  obtain ⟨v0, vs0, d0, ds0, p0, q0, hargs, rfl, rfl, h0, r0⟩ := trodAll_cons hA
  obtain ⟨rfl, rfl, rfl⟩ := trodAll_nil r0
  obtain rfl : args = #[v0] := by cases args; simp_all
  obtain ⟨rfl, rfl⟩ := trodVars_none hV
  have k0 := h0
  have lt0 : ∀ x ∈ p0, x.block < W.heap.size := by obtain ⟨m, hm⟩ := k0; exact DataW.trod_lt m _ _ _ hm
  obtain ⟨a0, len0, cap0, rfl⟩ := okWide_slice Try.underlying22 (hval 0 22 v0 rfl rfl)
  obtain ⟨z0, w0⟩ : ∃ zs, IsRow .u8 W a0 len0 cap0 zs := by
    obtain ⟨fuel, hf⟩ := h0
    rcases open_ints Try.underlying22 Try.underlying5 (by kernel_rfl) hf with ⟨hcs, _⟩ | ⟨x, l, c, zs, hcs, _, hl, hm, hz, _, hcell, hwz⟩
    · simp [Value.cells] at hcs
      obtain ⟨rfl, rfl, rfl⟩ := hcs
      exact ⟨[], .inl ⟨rfl, rfl, rfl, rfl⟩⟩
    · simp [Value.cells] at hcs
      obtain ⟨rfl, rfl, rfl⟩ := hcs
      exact ⟨zs, .inr ⟨_, rfl, hl, hm, by simpa using hz, hcell, hwz⟩⟩
  clear hA0 hval0
  refine (walk W a0 len0 cap0 z0 w0).mono fun e W' ⟨he, bel⟩ => ?_
  subst he
  exact ⟨_, rfl, _, _, _, [], _, [], hW', trodAll_mk1 (shut_bool Try.underlying4 _), (trodAll_cons_mk (Below.trod laidOut (by kernel_rfl) (of_decide_eq_true (by kernel_rfl)) k0 bel lt0) trodAll_mk0), rfl, bel.frame _, fun h => by cases h⟩

theorem over : Rows.fnCompareRow.holds Try.pinned (OpenSpec.ofChange Rows.fnCompareSpec) :=
  OpenClaim.holds_of_wide 7 Try.f7 rfl rfl rfl rfl rfl rfl rfl ⟨rfl, rfl, rfl, rfl, rfl⟩ rfl rfl rfl rfl rfl (by kernel_rfl) Try.func7 (by kernel_rfl)
    (of_decide_eq_true (by kernel_rfl)) (by unfold Func.isWrapper; first | (rw [if_pos (by decide +kernel)]; kernel_rfl) | (rw [if_neg (by decide +kernel)]; exact ⟨rfl, rfl⟩))
    (fun os started H enc _ => lifted os started H enc)

theorem proved : Rows.FnCompareSaid := over
#print axioms proved
end Go.Proofs.Ytddfgplgjjkdcaa.fnCompare
