/-
  Contracts over the program: a cold processor, the model's and the program's own.
-/
import Derived.Test.YtckfdbjjjgfbfaaQShotA
import Derived.Test.YtckfdbjjjgfbfaaQStepD
import Derived.Test.YtckfdbjjjgfbfaaQRamI
import Derived.Test.YtckfdbjjjgfbfaaQPlayWord
import Derived.Test.YtckfdbjjjgfbfaaQRegCold
import Derived.Deep.RegionHeld3
import Derived.Deep.DeepCutAuto
namespace Go.Proofs.Ytckfdbjjjgfbfaa
set_option linter.unusedVariables false
set_option linter.unusedSimpArgs false
open Go.RowKit

/-- The processor that a memory starts. -/
def coldN (L : List Nat) : CpuN := if ramN L.length = true then ⟨0, 0, 0, 253, peekL L 65532 + 256 * peekL L 65533, false, false, false, true, false, false⟩ else cpu0

set_option maxRecDepth 100000 in
set_option maxHeartbeats 1000000 in
theorem implCold_any (a : Option Addr) (cap : Nat) (L : List Nat) (w : World) (hr : RowB w a L) :
    Calls Try.prog 12 #[ramV (.slice a L.length cap)] w fun e w' => e = .returned (cpuV (coldN L)) ∧ Below w.heap.size w w' := by
  have HO := fun w => implOk_any a L.length cap w
  have p1 := BoxN.new w 30 #[.slice a L.length cap]
  have p2 := BoxN.new (w.alloc (.cells #[.slice a L.length cap] 30)) 28 zero11
  rw [World.size_alloc] at p2
  replace p1 := p1.below (alw _ (.cells zero11 28))
  have b0 := bstep (alw w (.cells #[.slice a L.length cap] 30)) (alw _ (.cells zero11 28))
  cases h : ramN L.length with
  | false =>
    have e : coldN L = cpu0 := by unfold coldN; rw [if_neg (by rw [h]; exact Bool.false_ne_true)]
    rw [e]
    rw [h] at HO
    clear e h
    go_enter Try.func12, Try.ntmps12
    have c1 := p1.cell 0 _ rfl
    go_wp2_with fail
    refine (HO _).mono ?_
    rintro e w1 ⟨rfl, d1⟩
    have q2 := p2.below d1
    have q1 := p1.below d1
    obtain ⟨h0, h1, h2, h3, h4, h5, h6, h7, h8, h9, h10, f1⟩ := eleven q2
    have n0 := q1.lt
    have n1 := q2.lt
    have b1 := bstep b0 d1
    have B0 := Lib.hid b1
    clear p1 p2 c1 q1 q2 d1 b0 b1
    go_wp2
    refine bodyPost_ret (v := cpuV cpu0) (by simp [results, Try.results12, go_sem, h0, h1, h2, h3, h4, h5, h6, h7, h8, h9, h10, cpu0, n0, n1]) rfl ⟨rfl, ?_⟩
    have hW := B0.out
    repeat (any_goals (first | (with_reducible exact hW) | (with_reducible refine Below.drew ?_) | (with_reducible refine Below.setCell ?_ ?_ _) | (with_reducible refine Below.alloc ?_ ?_ _)))
    all_goals (first | (with_reducible exact Nat.le_refl _) | (simp; done) | (simp; omega))
  | true =>
    have l1 := peekL_lt hr 65532
    have l2 := peekL_lt hr 65533
    have HP1 := fun W (h : RowB W a L) => implPeek_any a cap 65532 L (by decide) W h
    have HP2 := fun W (h : RowB W a L) => implPeek_any a cap 65533 L (by decide) W h
    have e : coldN L = ⟨0, 0, 0, 253, peekL L 65532 + 256 * peekL L 65533, false, false, false, true, false, false⟩ := by unfold coldN; rw [if_pos h]
    rw [e]
    rw [h] at HO
    clear e h
    obtain ⟨x, hx⟩ : ∃ x, peekL L 65532 = x := ⟨_, rfl⟩
    obtain ⟨y, hy⟩ : ∃ x, peekL L 65533 = x := ⟨_, rfl⟩
    rw [hx] at HP1 l1
    rw [hy] at HP2 l2
    rw [hx, hy]
    obtain ⟨z, hz⟩ : ∃ z, x + 256 * y = z := ⟨_, rfl⟩
    rw [hz]
    have HZ := Lib.hid hz
    have zb : z < 65536 := by omega
    have HR := Lib.hid hr
    clear hx hy hz hr
    go_enter Try.func12, Try.ntmps12
    have c1 := p1.cell 0 _ rfl
    go_wp2_with fail
    refine (HO _).mono ?_
    rintro e w1 ⟨rfl, d1⟩
    replace p2 := p2.below d1
    replace p1 := p1.below d1
    replace b0 := bstep b0 d1
    clear c1 d1 HO
    have c1 := p1.cell 0 _ rfl
    go_wp2_with fail
    refine (HP1 _ (HR.out.below b0)).mono ?_
    rintro e w2 ⟨rfl, d1⟩
    replace p2 := p2.below d1
    replace p1 := p1.below d1
    replace b0 := bstep b0 d1
    clear c1 d1
    have c1 := p1.cell 0 _ rfl
    go_wp2_with fail
    refine (HP2 _ (HR.out.below b0)).mono ?_
    rintro e w3 ⟨rfl, d1⟩
    replace p2 := p2.below d1
    replace p1 := p1.below d1
    replace b0 := bstep b0 d1
    clear c1 d1
    go_wp2_with fail
    refine (implWord_any x y l1 l2 _).mono ?_
    rintro e w4 ⟨rfl, rfl⟩
    rw [HZ.out]
    obtain ⟨h0, h1, h2, h3, h4, h5, h6, h7, h8, h9, h10, f1⟩ := eleven p2
    have n0 := p1.lt
    have n1 := p2.lt
    have B0 := Lib.hid b0
    clear p1 p2 b0
    go_wp2
    refine bodyPost_ret (v := cpuV ⟨0, 0, 0, 253, z, false, false, false, true, false, false⟩) (by simp [results, Try.results12, go_sem, h0, h1, h2, h3, h4, h5, h6, h7, h8, h9, h10, n0, n1]) rfl ⟨rfl, ?_⟩
    have hW := B0.out
    repeat (any_goals (first | (with_reducible exact hW) | (with_reducible refine Below.drew ?_) | (with_reducible refine Below.setCell ?_ ?_ _) | (with_reducible refine Below.alloc ?_ ?_ _)))
    all_goals (first | (with_reducible exact Nat.le_refl _) | (simp; done) | (simp; omega))

set_option maxRecDepth 100000 in
set_option maxHeartbeats 4000000 in
theorem specCold_any (a : Option Addr) (cap : Nat) (L : List Nat) (w : World) (hr : RowB w a L) :
    Calls Try.prog 10 #[ramV (.slice a L.length cap)] w fun e w' => e = .returned (cpuV (coldN L)) ∧ Below w.heap.size w w' := by
  have HO := fun w => specOk_any a L.length cap w
  have p1 := BoxN.new w 30 #[.slice a L.length cap]
  have p2 := BoxN.new (w.alloc (.cells #[.slice a L.length cap] 30)) 28 zero11
  rw [World.size_alloc] at p2
  replace p1 := p1.below (alw _ (.cells zero11 28))
  have b0 := bstep (alw w (.cells #[.slice a L.length cap] 30)) (alw _ (.cells zero11 28))
  cases h : ramN L.length with
  | false =>
    have e : coldN L = cpu0 := by unfold coldN; rw [if_neg (by rw [h]; exact Bool.false_ne_true)]
    rw [e]
    rw [h] at HO
    clear e h
    go_enter Try.func10, Try.ntmps10
    have c1 := p1.cell 0 _ rfl
    go_wp2_with fail
    refine (HO _).mono ?_
    rintro e w1 ⟨rfl, d1⟩
    have q2 := p2.below d1
    have q1 := p1.below d1
    obtain ⟨h0, h1, h2, h3, h4, h5, h6, h7, h8, h9, h10, f1⟩ := eleven q2
    have n0 := q1.lt
    have n1 := q2.lt
    have b1 := bstep b0 d1
    have B0 := Lib.hid b1
    clear p1 p2 c1 q1 q2 d1 b0 b1
    go_wp2
    refine bodyPost_ret (v := cpuV cpu0) (by simp [results, Try.results10, go_sem, h0, h1, h2, h3, h4, h5, h6, h7, h8, h9, h10, cpu0, n0, n1]) rfl ⟨rfl, ?_⟩
    have hW := B0.out
    repeat (any_goals (first | (with_reducible exact hW) | (with_reducible refine Below.drew ?_) | (with_reducible refine Below.setCell ?_ ?_ _) | (with_reducible refine Below.alloc ?_ ?_ _)))
    all_goals (first | (with_reducible exact Nat.le_refl _) | (simp; done) | (simp; omega))
  | true =>
    have l1 := peekL_lt hr 65532
    have l2 := peekL_lt hr 65533
    have HP1 := fun W (h : RowB W a L) => specPeek_any a cap 65532 L (by decide) W h
    have HP2 := fun W (h : RowB W a L) => specPeek_any a cap 65533 L (by decide) W h
    have e : coldN L = ⟨0, 0, 0, 253, peekL L 65532 + 256 * peekL L 65533, false, false, false, true, false, false⟩ := by unfold coldN; rw [if_pos h]
    rw [e]
    rw [h] at HO
    clear e h
    obtain ⟨x, hx⟩ : ∃ x, peekL L 65532 = x := ⟨_, rfl⟩
    obtain ⟨y, hy⟩ : ∃ x, peekL L 65533 = x := ⟨_, rfl⟩
    rw [hx] at HP1 l1
    rw [hy] at HP2 l2
    rw [hx, hy]
    obtain ⟨z, hz⟩ : ∃ z, x + 256 * y = z := ⟨_, rfl⟩
    have HWD := fun w => word_at x y l1 l2 (show word x y = z from hz) w
    rw [hz]
    have zb : z < 65536 := by omega
    have HR := Lib.hid hr
    clear hx hy hz hr
    go_enter Try.func10, Try.ntmps10
    have c1 := p1.cell 0 _ rfl
    go_wp2_with fail
    refine (HO _).mono ?_
    rintro e w1 ⟨rfl, d1⟩
    replace p2 := p2.below d1
    replace p1 := p1.below d1
    replace b0 := bstep b0 d1
    clear c1 d1 HO
    have hRV := fun (W : World) (h : Span (w.heap.size + 1) (w.heap.size + 1 + 1) w1 W) => HR.out.below (b0.trans (h.below (n := w.heap.size) (by omega) b0.size))
    go_wp2_with fail
    go_cut [14] from 7 to 13 (fun v W => BoxN W (w.heap.size + 1) 28 (cpuCells ⟨0, 0, 0, 253, z, false, false, false, true, false, false⟩) ∧ Span (w.heap.size + 1) (w.heap.size + 1 + 1) w1 W)
    case first =>
      rename_i J K' hJ hK
      refine coldReg w.heap.size x y z a L.length cap (w.heap.size + 1) w1 p1 p2 (by omega) zb (fun W h => HP1 W (hRV W h)) (fun W h => HP2 W (hRV W h)) HWD _ rfl rfl rfl _ ?_ _ (by kernel_rfl) _
      intro a' W hf ht
      exact hK _ _ (Met.intro (hJ _ _ ⟨a'.eval (.tmp 7), a'.eval (.tmp 8), a'.eval (.tmp 9), a'.eval (.tmp 10), a'.eval (.tmp 11), a'.eval (.tmp 12), a'.eval (.tmp 13), a'.eval (.tmp 14), ht, hf.eq.trans (by kernel_rfl)⟩))
    obtain ⟨w5, hW⟩ : ∃ W, W = wc := ⟨_, rfl⟩
    subst hW
    obtain ⟨q2, sp⟩ := hcut
    obtain ⟨h0, h1, h2, h3, h4, h5, h6, h7, h8, h9, h10, f1⟩ := eleven q2
    have B0 := Lib.hid (b0.trans (sp.below (n := w.heap.size) (by omega) b0.size))
    clear p1 p2 b0 sp q2 hRV HWD HP1 HP2
    go_wp2
    refine bodyPost_ret (v := cpuV ⟨0, 0, 0, 253, z, false, false, false, true, false, false⟩) (by simp [results, Try.results10, go_sem, h0, h1, h2, h3, h4, h5, h6, h7, h8, h9, h10]) rfl ⟨rfl, ?_⟩
    exact B0.out

end Go.Proofs.Ytckfdbjjjgfbfaa
