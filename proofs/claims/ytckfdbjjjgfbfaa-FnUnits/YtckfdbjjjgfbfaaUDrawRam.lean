/-
  Contracts over the program: memories that are drawn.
-/
import Derived.Test.YtckfdbjjjgfbfaaUDrawAsm
import Derived.Test.YtckfdbjjjgfbfaaURamB
import Derived.Test.YtckfdbjjjgfbfaaUSpan
import Derived.Test.YtckfdbjjjgfbfaaUDrawCpu
import Derived.Deep.RegionHeld3
import Derived.StillTailTactics
import Derived.IntWalk
namespace Go.Proofs.Ytckfdbjjjgfbfaa
set_option linter.unusedVariables false
set_option linter.unusedSimpArgs false
open Go.RowKit

/-- A memory that is drawn: its bytes lie in memory of its own, above the cursor. -/
def DrewRam (n₀ B : Nat) (a : Option Addr) (len cap : Nat) (z : List Int) (w : World) (e : Ending) (w' : World) : Prop :=
  ∃ (v : Value) (L : List Nat) (s : Nat × Int), L.length ≤ 8192 ∧ e = .returned (ramV v) ∧ OwnB w' w.heap.size v L ∧ Drawn n₀ B a len cap z s w' ∧ w.grownBy w' (some B)

def ramL4 : List Int := [256, 512, 1024, 4096]
theorem ramL4_bd (i : Nat) (h : i < 4) : ∃ d : Nat, ramL4[i]?.getD 0 = (d : Int) ∧ ramN d = true := by
  unfold ramL4
  rcases i with _ | _ | _ | _ | i
  · exact ⟨256, rfl, rfl⟩
  · exact ⟨512, rfl, rfl⟩
  · exact ⟨1024, rfl, rfl⟩
  · exact ⟨4096, rfl, rfl⟩
  · omega

theorem newL_yes {d : Nat} (h : ramN d = true) : newL (d : Int) = List.replicate d 0 := by
  unfold newL ramI
  rw [if_pos (by simp [h])]
  simp

theorem one_keep2 {w w1 : World} {B : Nat} {u : Value} (hb : Below w.heap.size w w1) (h : w.cell? ⟨B, 0, none⟩ = some u ∧ B < w.heap.size) : w1.cell? ⟨B, 0, none⟩ = some u ∧ B < w1.heap.size :=
  ⟨cellKept hb h.1 h.2, Nat.lt_of_lt_of_le h.2 hb.size⟩

theorem one_set {w : World} {B C k : Nat} {u v : Value} (hne : C ≠ B) (h : w.cell? ⟨B, 0, none⟩ = some u ∧ B < w.heap.size) : (w.setCell ⟨C, k, none⟩ v).cell? ⟨B, 0, none⟩ = some u ∧ B < (w.setCell ⟨C, k, none⟩ v).heap.size :=
  ⟨by rw [World.cell?_setCell_far]; exact h.1; exact hne, by simpa using h.2⟩

theorem one_grown {w w1 : World} {B C : Nat} {u : Value} (hg : w.grownBy w1 (some C)) (hne : B ≠ C) (h : w.cell? ⟨B, 0, none⟩ = some u ∧ B < w.heap.size) : w1.cell? ⟨B, 0, none⟩ = some u ∧ B < w1.heap.size :=
  ⟨hg.cell h.1 (by intro e; simp at e; exact hne e), Nat.lt_of_lt_of_le h.2 hg.size⟩

set_option maxRecDepth 100000 in
set_option maxHeartbeats 2000000 in
theorem ram_drawn (n₀ B : Nat) (a : Option Addr) (len cap : Nat) (z : List Int) (s : Nat × Int) (w : World) (h : Drawn n₀ B a len cap z s w) :
    Calls Try.prog 45 #[.pointer (some ⟨B, 0, none⟩)] w (DrewRam n₀ B a len cap z w) := by
  have hlt := h.lt
  have bx := BoxN.new w 30 #[.slice none 0 0]
  have g0 := World.grownBy_alloc w (.cells #[.slice none 0 0] 30) (some B)
  go_enter Try.func45, Try.ntmps45
  go_wp2_with fail
  have hcells := ints_cells (w.alloc (.cells #[.slice none 0 0] 30)) ramL4 3
  rw [World.size_alloc] at hcells
  refine (pickInt_drawn n₀ B a len cap z s (w.heap.size + 1) 4 4 ramL4 _ ((h.alloc _).alloc _) (by omega) (by omega) (by omega) (by simp) (fun i hi => hcells i hi)).mono ?_
  rintro e w1 ⟨rfl, hd1, hg1⟩
  obtain ⟨d, hd, hdr⟩ := ramL4_bd (belowV z len s ((4 : Nat) : Int)).toNat (by have := belowV_bound z len s 4 (by omega); show (belowV z len s 4).toNat < 4; omega)
  rw [hd]
  have bx1 := ((bx.below ((Below.refl _ _).alloc (Nat.le_refl _) _)).grown hg1 (by omega))
  have gg1 := grown_trans g0 (grown_trans (World.grownBy_alloc _ _ (some B)) hg1)
  generalize belowS len s ((4 : Nat) : Int) = s1 at hd1
  clear bx g0 hg1 hcells hd
  have CN := fun w => specNew_any (d : Int) w
  rw [newL_yes hdr] at CN
  go_wp2_with fail
  refine (CN _).mono ?_
  rintro e w2 ⟨v2, rfl, o2, b2⟩
  obtain ⟨a2, c2, rfl⟩ := o2.len
  rw [List.length_replicate] at o2 ⊢
  have hdb := ramN_pos hdr
  obtain ⟨g2, q2, hv2, _⟩ := o2.cells (by rw [List.length_replicate]; omega)
  rw [List.length_replicate] at hv2
  simp only [Value.slice.injEq] at hv2
  obtain ⟨rfl, _, rfl⟩ := hv2
  have hgg := ((World.ownsRow.lt o2.2) g2 rfl)
  have hd2 := hd1.below b2
  have gg2 := grown_trans gg1 (grown_of_below b2)
  have bx2 := bx1.below b2
  have d3 : Below w2.heap.size w2 (w2.alloc (.cells #[.slice (some ⟨g2, 0, none⟩) d c2] 30)) := (Below.refl _ _).alloc (Nat.le_refl _) _
  have p3 : BoxN (w2.alloc (.cells #[.slice (some ⟨g2, 0, none⟩) d c2] 30)) w2.heap.size 30 #[.slice (some ⟨g2, 0, none⟩) d c2] := BoxN.new _ _ _
  have hd3 := hd2.below d3
  have gg3 := grown_trans gg2 (grown_of_below d3)
  have bx3 := bx2.below d3
  have o3 := o2.below d3
  have hs1 := gg1.size
  have hlt1 := bx1.lt
  have hs2 := b2.size
  clear hd1 gg1 bx1 hd2 gg2 bx2 d3 b2 o2 CN
  go_wp2_with fail
  refine (bytes_drawn2 n₀ B a len cap z s1 60 (by omega) _ hd3).mono ?_
  rintro e w4 ⟨v4, X, s4, hX, rfl, o4, hd4, hg4⟩
  obtain ⟨g4, q4, rfl, _⟩ := o4.cells (by omega)
  have hg4b := ((World.ownsRow.lt o4.2) g4 rfl)
  rw [World.size_alloc] at o4 hg4b
  have p4 := p3.grown hg4 (by omega)
  have bx4 := bx3.grown hg4 (by omega)
  have o34 := o3.grown hg4 (by omega)
  have gg4 := grown_trans gg3 hg4
  have hs4 := hg4.size
  rw [World.size_alloc] at hs4
  clear p3 bx3 o3 gg3 hg4 hd3
  have HO4 := Lib.hid o4
  have HX := Lib.hid o4.row.2
  have H0 := Lib.hid (And.intro p4 (And.intro bx4 (And.intro o34 (And.intro hd4 gg4))))
  have hXb : 60 ≤ X.length ∧ X.length ≤ 180 := by omega
  clear o4 p4 bx4 o34 hd4 gg4 hX
  go_wp2
  go_loopw [5] (fun i wr => ∃ (j : Nat) (M : List Nat), j ≤ d ∧ i = .int .i64 j ∧ Hid (M.length = d ∧ OwnB wr w1.heap.size (.slice (some ⟨g2, 0, none⟩) d c2) M ∧ OwnB wr (w2.heap.size + 1) (.slice (some ⟨g4, 0, none⟩) X.length q4) X ∧ BoxN wr w2.heap.size 30 #[.slice (some ⟨g2, 0, none⟩) d c2] ∧ BoxN wr w.heap.size 30 #[.slice none 0 0] ∧ Drawn n₀ B a len cap z s4 wr ∧ w.grownBy wr (some B))) (fun i _ => d - (intOf i).toNat)
  case atStart => exact ⟨0, List.replicate d 0, Nat.zero_le _, rfl, Lib.hid ⟨List.length_replicate, H0.out.2.2.1, HO4.out, H0.out.1, H0.out.2.1, H0.out.2.2.2.1, H0.out.2.2.2.2⟩⟩
  case round =>
    obtain ⟨j, M, hj, rfl, HI⟩ := hrel
    obtain ⟨hM, oM, oX, pM, bM, hdM, ggM⟩ := HI.out
    have cM := pM.cell 0 (.slice (some ⟨g2, 0, none⟩) d c2) rfl
    by_cases hp : j < d
    · obtain ⟨q, hq⟩ : ∃ q, j / 97 = q := ⟨_, rfl⟩
      obtain ⟨k, hk⟩ : ∃ k, (j * 7 + q) % X.length = k := ⟨_, rfl⟩
      have hq2 : q ≤ 4096 := by omega
      have hkl : k < X.length := by rw [← hk]; exact Nat.mod_lt _ (by omega)
      have y1 : IntKind.i64.wrap ((j : Int) * 7) = (j : Int) * 7 := IntWalk.i64_in _ (by omega)
      have y2 : (j : Int).tdiv 97 = (q : Int) := by rw [Int.tdiv_eq_ediv_of_nonneg (by omega)]; omega
      have y3 : IntKind.i64.wrap (q : Int) = (q : Int) := IntWalk.i64_in _ (by omega)
      have y4 : IntKind.i64.wrap ((j : Int) * 7 + (q : Int)) = (j : Int) * 7 + (q : Int) := IntWalk.i64_in _ (by omega)
      have y5 : ((j : Int) * 7 + (q : Int)).tmod (X.length : Int) = (k : Int) := by
        rw [show (j : Int) * 7 + (q : Int) = ((j * 7 + q : Nat) : Int) by omega, idx_rem _ _ (by omega), hk]
      have y6 : IntKind.i64.wrap (k : Int) = (k : Int) := IntWalk.i64_in _ (by omega)
      have y7 : ¬ (X.length : Int) = 0 := by omega
      have y8 : ((X.length : Int) == 0) = false := beq_eq_false_iff_ne.2 (by omega)
      have y9 : ¬ X.length = 0 := by omega
      have ij : (0 : Int) ≤ (j : Int) ∧ (j : Int) < (d : Int) := by omega
      have ik : (0 : Int) ≤ (k : Int) ∧ (k : Int) < (X.length : Int) := by omega
      obtain ⟨hcj, hfj⟩ := ownB_cell oM (k := j) (by omega)
      obtain ⟨hck, _⟩ := ownB_cell oX (k := k) hkl
      obtain ⟨y, hy⟩ : ∃ y, M.getD j 0 = y := ⟨_, rfl⟩
      obtain ⟨x, hx⟩ : ∃ x, X.getD k 0 = x := ⟨_, rfl⟩
      have hx2 : x < 256 := by rw [← hx]; exact oX.1 k hkl
      rw [hy] at hcj
      rw [hx] at hck
      have HOM := Lib.hid oM
      have HOX := Lib.hid oX
      clear hy hx hk hq oM oX
      go_wp2_with fail
      go_still_tail 15, (by kernel_rfl)
      change wpList _ _ _ _ _ wr.drew
      have hcj' : wr.drew.cell? ⟨g2, j, none⟩ = some (.int .u8 (y : Int)) := hcj
      have hfj' : wr.drew.frozen? ⟨g2, j, none⟩ = false := hfj
      have HOM' : Hid (OwnB wr.drew w1.heap.size (.slice (some ⟨g2, 0, none⟩) d c2) M) := Lib.hid HOM.out
      have HOX' : Hid (OwnB wr.drew (w2.heap.size + 1) (.slice (some ⟨g4, 0, none⟩) X.length q4) X) := Lib.hid HOX.out
      have pM' := pM.drew
      have bM' := bM.drew
      have hdM' : Drawn n₀ B a len cap z s4 wr.drew := hdM
      have ggM' : w.grownBy wr.drew (some B) := grown_trans ggM (grown_of_below (Below.refl _ _).drew)
      clear hcj hfj HOM HOX pM bM hdM ggM hck cM HI y1 y2 y3 y4 y5 y6 y7 y8
      generalize wr.drew = w5 at hcj' hfj' HOM' HOX' pM' bM' hdM' ggM' ⊢
      obtain ⟨hO5, hg5⟩ := ownB_set (k := j) HOM'.out hM.symm hx2
      have HO5 := Lib.hid hO5
      have HG5 := Lib.hid hg5
      clear hO5 hg5 HOM'
      go_wp2
      go_roundw
      case rel =>
        exact ⟨j + 1, M.set j x, by omega, by go_num, Lib.hid ⟨by rw [List.length_set]; exact hM, HO5.out, ownB_ne HOX'.out HG5.out (fun t ht => by simp [Value.ownBlock] at ht; omega), pM'.grown HG5.out (by omega), bM'.grown HG5.out (by omega), hdM'.grown HG5.out (fun t ht => by simp at ht; omega), grown_own ggM' HG5.out (fun t ht => by simp at ht; omega)⟩⟩
      case measure => simp [intOf]; omega
    · obtain rfl : j = d := by omega
      have CF := fun (addr : Nat) (ha : addr < 65536) W hr hx => specFill_any (some ⟨g2, 0, none⟩) c2 addr M (some ⟨g4, 0, none⟩) q4 X ha W hr hx (by unfold maxLen; omega)
      rw [hM] at CF
      obtain ⟨P, hP0, hP2⟩ : ∃ P : Nat, belowV z len s4 4096 = (P : Int) ∧ P < 4096 := by
        obtain ⟨u0, u1⟩ := belowV_bound z len s4 4096 (by omega)
        exact ⟨(belowV z len s4 4096).toNat, by omega, by omega⟩
      have CB := fun W hd => below_drawn n₀ B a len cap z s4 4096 W hd
      rw [hP0] at CB
      generalize belowS len s4 4096 = s5 at CB
      have y1 : IntKind.u16.wrap (P : Int) = (P : Int) := by rw [IntKind.wrap_u16]; omega
      have S0 : wr.drew.cell? ⟨w2.heap.size, 0, none⟩ = some (.slice (some ⟨g2, 0, none⟩) j c2) ∧ w2.heap.size < wr.drew.heap.size := ⟨cM, pM.lt⟩
      have oM' : OwnB wr.drew w1.heap.size (.slice (some ⟨g2, 0, none⟩) j c2) M := oM
      have oX' : OwnB wr.drew (w2.heap.size + 1) (.slice (some ⟨g4, 0, none⟩) X.length q4) X := oX
      have bM' := bM.drew
      have hdM' : Drawn n₀ B a len cap z s4 wr.drew := hdM
      have ggM' : w.grownBy wr.drew (some B) := grown_trans ggM (grown_of_below (Below.refl _ _).drew)
      have hsw := ggM.size
      clear pM bM hdM ggM oM oX HI
      go_wp2_with fail
      go_region_held3 (fun w' => w'.cell? ⟨w2.heap.size, 0, none⟩ = some (.slice (some ⟨g2, 0, none⟩) j c2) ∧ w2.heap.size < w'.heap.size)
        (((try dsimp only); (first | (with_reducible exact S0) | (exact one_grown hg5 (by omega) S0) | (exact one_keep2 d6 (one_grown hg5 (by omega) S0)) | (exact one_set (by omega) (one_keep2 d6 (one_grown hg5 (by omega) S0))))))
        (first | (go_at_call 23; with_reducible refine (CB _ hdM').mono ?_; rintro e w5 ⟨rfl, hd5, hg5⟩) | (go_at_call 50; with_reducible refine (CF P (by omega) _ (oM'.grown hg5 (by omega)).row.2 (oX'.grown hg5 (by omega)).row.2).mono ?_; rintro e w6 ⟨v6, rfl, o6, d6⟩; obtain ⟨a6, c6, rfl⟩ := o6.len; have rR := ((bM'.grown hg5 (by omega)).below d6); have cR := rR.cell 0 (.slice none 0 0) rfl; have fR := rR.frozen 0))
      have gg6 := grown_trans (grown_trans ggM' hg5) (grown_of_below (row := some B) d6)
      have hd6 := hd5.below d6
      have hs5 := hg5.size
      have cR2 := (rR.set 0 (.slice a6 (fillL M P X).length c6)).cell 0 (.slice a6 (fillL M P X).length c6) rfl
      go_wp2
      refine bodyPost_ret (v := ramV (.slice a6 (fillL M P X).length c6)) (by simp [results, Try.results45, go_sem, cR2]) rfl ⟨_, fillL M P X, s5, ?_, rfl, ?_, ?_, ?_⟩
      · unfold fillL; split
        · rw [fillAt_len]; omega
        · simp
      · exact ownB_ne (OwnB.base o6 (by omega)) (grownB_set _ _ _) (fun t ht => by have := ((World.ownsRow.lt o6.2) t ht).1; omega)
      · exact hd6.setCell hlt _
      · exact grown_setCell gg6 (Nat.le_refl _) _

end Go.Proofs.Ytckfdbjjjgfbfaa
