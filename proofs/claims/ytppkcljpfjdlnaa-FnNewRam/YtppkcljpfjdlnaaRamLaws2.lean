/-
  The law of new memories (FnNewRam), walked over any program whose functions keep their contracts.
-/
import Derived.Test.YtppkcljpfjdlnaaRamLaws
import Derived.Test.YtppkcljpfjdlnaaDrawAsm
import Derived.Test.YtppkcljpfjdlnaaCodesLaw
import Derived.Test.YtppkcljpfjdlnaaLawAt
import Derived.IntWalk
namespace Go.Proofs.Ytppkcljpfjdlnaa
set_option linter.unusedVariables false
set_option linter.unusedSimpArgs false
open Go.RowKit

def newNums : List Int := [0, 1, -1, 128, 256, 512, 1024, 2048, 4096, 8192, 300]

theorem newNums_bd (i : Nat) : (Lit.int .i64 (newNums[i]?.getD 0)).wf = true := by
  unfold newNums
  rcases i with _ | _ | _ | _ | _ | _ | _ | _ | _ | _ | _ | i <;> rfl

def DrewInt (w : World) (e : Ending) (w' : World) : Prop := ∃ n : Int, (Lit.int .i64 n).wf = true ∧ e = .returned (.int .i64 n) ∧ Below w.heap.size w w'

set_option maxRecDepth 100000 in
theorem drawNewRam_any (n₀ : Nat) (a : Option Addr) (len cap : Nat) (z : List Int) (w : World) (hc : CodeRow n₀ w a len z) (hn : n₀ ≤ w.heap.size) :
    Calls Try.prog 26 #[.slice a len cap] w (DrewInt w) := by
  have hst := hc.startS (cap := cap) hn
  go_enter Try.func26, Try.ntmps26
  go_wp2_with fail
  refine (new_any n₀ a len cap z w hc).mono ?_
  rintro e w1 ⟨rfl, rfl⟩
  have d1 : Below w.heap.size w (w.alloc (.cells #[.slice a len cap, .int .i64 0, .int .i64 (startH z len)] 90)) := (Below.refl _ _).alloc (Nat.le_refl _) _
  generalize w.alloc (.cells #[.slice a len cap, .int .i64 0, .int .i64 (startH z len)] 90) = w1 at hst d1 ⊢
  go_wp2_with fail
  have hcells := ints_cells w1 newNums 3
  refine (pickInt_drawn n₀ _ a len cap z _ w1.heap.size 11 11 newNums _ (hst.alloc _) (by omega) (by omega) (by have := hst.lt; omega) (by simp) (fun i hi => hcells i hi)).mono ?_
  rintro e w2 ⟨rfl, hd2, hg2⟩
  have b2 := newNums_bd (belowV z len (0, startH z len) ((11 : Nat) : Int)).toNat
  have bb : Below w.heap.size w w2 := (d1.alloc d1.size _).trans (grown_below hg2 (Nat.le_refl _) (by simp; have := hst.lt; omega))
  generalize newNums[(belowV z len (0, startH z len) ((11 : Nat) : Int)).toNat]?.getD 0 = N at b2 ⊢
  clear hcells hd2 hg2
  have HB := Lib.hid b2
  clear b2
  go_wp2
  go_ret
  exact ⟨N, HB.out, rfl, bb⟩

theorem newL_ok (n : Int) : ramN (newL n).length = decide ((0 : Int) < ((newL n).length : Int)) := by
  unfold newL
  split
  · rename_i h
    unfold ramI at h
    rw [Bool.and_eq_true] at h
    have := ramN_pos h.2
    rw [List.length_replicate, h.2]
    exact (decide_eq_true (by omega)).symm
  · rfl

theorem newL_peek (n : Int) (addr : Nat) : peekL (newL n) addr = 0 := by
  unfold peekL
  split
  · unfold newL
    split
    · simp [List.getD, List.getElem?_replicate]
      split <;> rfl
    · simp
  · rfl

theorem one_keep {w w1 : World} {B : Nat} {u : Value} (hb : Below w.heap.size w w1) (h : w.cell? ⟨B, 0, none⟩ = some u ∧ B < w.heap.size) : w1.cell? ⟨B, 0, none⟩ = some u ∧ B < w1.heap.size :=
  ⟨cellKept hb h.1 h.2, Nat.lt_of_lt_of_le h.2 hb.size⟩

set_option maxRecDepth 100000 in
set_option maxHeartbeats 1000000 in
theorem walkFnNewRam (HN : ImplNewRam) (HO : ImplRamOk) (HP : ImplPeek) (a : Option Addr) (len cap : Nat) (z : List Int) (w : World) (hc : CodeRow w.heap.size w a len z) (hl : len ≤ 1048576) :
    Calls Try.prog 6 #[.slice a len cap] w fun e w' => e = .returned (.bool true) ∧ Below w.heap.size w w' := by
  have hbig : decide ((1048576 : Int) < len) = false := by simp; omega
  have hfl : ∀ (v : Value) (w : World), (Instr.field 25 (.agg #[v]) 0).run Try.prog w = .ok v w := fun v w => by kernel_rfl
  go_enter Try.func6, Try.ntmps6
  go_wp2_with fail
  refine (bigCode_any _ _ _ _).mono ?_
  rintro e w' ⟨rfl, rfl⟩
  rw [hbig]
  clear hbig
  go_wp2_with fail
  refine (drawNewRam_any w.heap.size a len cap z w hc (Nat.le_refl _)).mono ?_
  rintro e w1 ⟨n, hn, rfl, d1⟩
  have CS := fun w => specNew_any n w
  have CI := fun w => HN n w hn
  obtain ⟨M, hM⟩ : ∃ M, newL n = M := ⟨_, rfl⟩
  have hml : M.length ≤ 1048576 := by rw [← hM]; exact newL_small n
  have hok := newL_ok n
  have hpk := newL_peek n
  rw [hM] at CS CI hok hpk
  clear hM
  go_wp2_with fail
  refine (CI _).mono ?_
  rintro e w2 ⟨v2, rfl, o2, d2⟩
  have s2 := SegB.of o2
  obtain ⟨a2, c2, rfl, h2⟩ := s2.len
  have b2 := bstep d1 d2
  have CO := fun w => HO a2 M.length c2 w hml
  rw [hok] at CO
  have d3 : Below w2.heap.size w2 (w2.alloc (.cells #[.slice a2 M.length c2] 25)) := (Below.refl _ _).alloc (Nat.le_refl _) _
  have p3 : BoxN (w2.alloc (.cells #[.slice a2 M.length c2] 25)) w2.heap.size 25 #[.slice a2 M.length c2] := BoxN.new _ _ _
  have s3 := s2.below d3
  have b3 := bstep b2 d3
  have S3 : (w2.alloc (.cells #[.slice a2 M.length c2] 25)).drew.cell? ⟨w2.heap.size, 0, none⟩ = some (.slice a2 M.length c2) ∧ w2.heap.size < (w2.alloc (.cells #[.slice a2 M.length c2] 25)).drew.heap.size := ⟨p3.cell 0 (.slice a2 M.length c2) rfl, p3.lt⟩
  have s3' := s3.drew
  have b3' := b3.drew
  clear d1 d2 b2 s2 o2 d3 p3 s3 b3
  go_wp2_with fail
  generalize w2.alloc (.cells #[.slice a2 M.length c2] 25) = W at S3 s3' b3' ⊢
  generalize w2.heap.size = B at S3 s3' ⊢
  go_region_held3 (fun w' => w'.cell? ⟨B, 0, none⟩ = some (.slice a2 M.length c2) ∧ B < w'.heap.size)
    (((try dsimp only); (first | (with_reducible exact S3) | (with_reducible exact one_keep d4 S3) | (with_reducible exact one_keep d5 (one_keep d4 S3)))))
    (first | (go_at_call 28; with_reducible refine (CS _).mono ?_; rintro e w4 ⟨v4, rfl, o4, d4⟩; obtain ⟨a4, c4, rfl⟩ := o4.len) | (go_at_call 29; with_reducible refine (CO _).mono ?_; rintro e w5 ⟨rfl, d5⟩))
  have b5 := bstep (bstep b3' d4) d5
  have s5 := (s3'.below d4).below d5
  have S5 := one_keep d5 (one_keep d4 S3)
  have c5 := S5.1
  have hc5 := hc.kept b5
  clear d4 d5 S3 s3' b3' o4 CS CI CO
  obtain ⟨x, hx, hx2⟩ := atV_bd hc5 0
  obtain ⟨y, hy, hy2⟩ := atV_bd hc5 1
  have CX := fun w h => at_any (cap := cap) w.heap.size a len 0 (by omega) z w h
  have A0 : ∀ W, CodeRow w.heap.size W a len z → Calls Try.prog 30 #[.slice a len cap, .int .i64 0] W fun e w' => e = .returned (.int .i64 (x : Int)) ∧ W = w' := fun W h => by have := at_any w.heap.size a len cap 0 (by omega) z W h; rw [hx2] at this; exact this
  have A1 : ∀ W, CodeRow w.heap.size W a len z → Calls Try.prog 30 #[.slice a len cap, .int .i64 1] W fun e w' => e = .returned (.int .i64 (y : Int)) ∧ W = w' := fun W h => by have := at_any w.heap.size a len cap 1 (by omega) z W h; rw [hy2] at this; exact this
  have k1 : IntKind.i64.wrap ((x : Int) * 256) = (x : Int) * 256 := IntWalk.i64_in _ (by omega)
  have k2 : IntKind.i64.wrap ((x : Int) * 256 + (y : Int)) = (x : Int) * 256 + (y : Int) := IntWalk.i64_in _ (by omega)
  obtain ⟨P, hP⟩ : ∃ P, x * 256 + y = P := ⟨_, rfl⟩
  have hP2 : P < 65536 := by omega
  have k3 : IntKind.u16.wrap ((x : Int) * 256 + (y : Int)) = (P : Int) := by rw [IntKind.wrap_u16]; omega
  have CP := fun W h => HP a2 c2 P M W hP2 hml h2 h
  rw [hpk] at CP
  clear hx2 hy2 CX hP hc hpk hok
  go_wp2_with fail
  have S5' : w5.drew.cell? ⟨B, 0, none⟩ = some (.slice a2 M.length c2) ∧ B < w5.drew.heap.size := S5
  have s5' := s5.drew
  have b5' := b5.drew
  have hc5' : CodeRow w.heap.size w5.drew a len z := hc5
  clear S5 s5 b5 hc5 c5
  go_region_held3 (fun w' => w'.cell? ⟨B, 0, none⟩ = some (.slice a2 M.length c2) ∧ B < w'.heap.size)
    (((try dsimp only); (first | (with_reducible exact S5') | (with_reducible exact one_keep d6 S5'))))
    (first | (go_at_call 30; with_reducible refine (A0 _ hc5').mono ?_; rintro e w' ⟨rfl, rfl⟩) | (go_at_call 30; with_reducible refine (A1 _ hc5').mono ?_; rintro e w' ⟨rfl, rfl⟩) | (go_at_call 18; with_reducible refine (CP _ s5'.row).mono ?_; rintro e w6 ⟨rfl, d6⟩))
  all_goals go_wp2
  all_goals go_ret
  all_goals exact ⟨rfl, bstep b5' d6⟩

end Go.Proofs.Ytppkcljpfjdlnaa
