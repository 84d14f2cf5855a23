/-
  A machine that is drawn: a processor, and a memory with an operation at PC (l06Small).
-/
import Derived.Test.YtblchdmemhhcbaaGreatQSDrawCpu
import Derived.Test.YtblchdmemhhcbaaGreatQSStepD
import Derived.Deep.RegionHeld3
import Derived.StillTailTactics
import Derived.IntWalk
import Derived.Test.YtblchdmemhhcbaaGreatQSStepK
namespace Go.Proofs.YtblchdmemhhcbaaGreat
set_option linter.unusedVariables false
set_option linter.unusedSimpArgs false
open Go.RowKit

/-- A memory that is drawn: its bytes lie in memory of its own, above the cursor. -/
def DrewRam (n₀ B : Nat) (a : Option Addr) (len cap : Nat) (z : List Int) (w : World) (e : Ending) (w' : World) : Prop :=
  ∃ (v : Value) (L : List Nat) (s : Nat × Int), L.length ≤ 8192 ∧ e = .returned (ramV v) ∧ OwnB w' w.heap.size v L ∧ Drawn n₀ B a len cap z s w' ∧ w.grownBy w' (some B)

def ramL4 : List Int := [256, 512, 1024, 4096]
theorem ramL4_bd (i : Nat) (h : i < 4) : ∃ d : Nat, ramL4[i]?.getD 0 = (d : Int) ∧ ramN d = true := by
  unfold ramL4
  rcases i with _ | _ | _ | _ | i
  · exact ⟨256, rfl, rfl⟩
  · exact ⟨512, rfl, rfl⟩
  · exact ⟨1024, rfl, rfl⟩
  · exact ⟨4096, rfl, rfl⟩
  · omega

theorem newL_yes {d : Nat} (h : ramN d = true) : newL (d : Int) = List.replicate d 0 := by
  unfold newL ramI
  rw [if_pos (by simp [h])]
  simp

theorem one_keep2 {w w1 : World} {B : Nat} {u : Value} (hb : Below w.heap.size w w1) (h : w.cell? ⟨B, 0, none⟩ = some u ∧ B < w.heap.size) : w1.cell? ⟨B, 0, none⟩ = some u ∧ B < w1.heap.size :=
  ⟨cellKept hb h.1 h.2, Nat.lt_of_lt_of_le h.2 hb.size⟩

theorem one_set {w : World} {B C k : Nat} {u v : Value} (hne : C ≠ B) (h : w.cell? ⟨B, 0, none⟩ = some u ∧ B < w.heap.size) : (w.setCell ⟨C, k, none⟩ v).cell? ⟨B, 0, none⟩ = some u ∧ B < (w.setCell ⟨C, k, none⟩ v).heap.size :=
  ⟨by rw [World.cell?_setCell_far]; exact h.1; exact hne, by simpa using h.2⟩

theorem one_grown {w w1 : World} {B C : Nat} {u : Value} (hg : w.grownBy w1 (some C)) (hne : B ≠ C) (h : w.cell? ⟨B, 0, none⟩ = some u ∧ B < w.heap.size) : w1.cell? ⟨B, 0, none⟩ = some u ∧ B < w1.heap.size :=
  ⟨hg.cell h.1 (by intro e; simp at e; exact hne e), Nat.lt_of_lt_of_le h.2 hg.size⟩

set_option maxRecDepth 100000 in
set_option maxHeartbeats 2000000 in
theorem ram_drawn (n₀ B : Nat) (a : Option Addr) (len cap : Nat) (z : List Int) (s : Nat × Int) (w : World) (h : Drawn n₀ B a len cap z s w) :
    Calls Tryz.prog 63 #[.pointer (some ⟨B, 0, none⟩)] w (DrewRam n₀ B a len cap z w) := by
  have hlt := h.lt
  have bx := BoxN.new w 30 #[.slice none 0 0]
  have g0 := World.grownBy_alloc w (.cells #[.slice none 0 0] 30) (some B)
  go_enter Tryz.func63, Tryz.ntmps63
  go_wp2_with fail
  have hcells := ints_cells (w.alloc (.cells #[.slice none 0 0] 30)) ramL4 3
  rw [World.size_alloc] at hcells
  refine (pickInt_drawn n₀ B a len cap z s (w.heap.size + 1) 4 4 ramL4 _ ((h.alloc _).alloc _) (by omega) (by omega) (by omega) (by simp) (fun i hi => hcells i hi)).mono ?_
  rintro e w1 ⟨rfl, hd1, hg1⟩
  obtain ⟨d, hd, hdr⟩ := ramL4_bd (belowV z len s ((4 : Nat) : Int)).toNat (by have := belowV_bound z len s 4 (by omega); show (belowV z len s 4).toNat < 4; omega)
  rw [hd]
  have bx1 := ((bx.below ((Below.refl _ _).alloc (Nat.le_refl _) _)).grown hg1 (by omega))
  have gg1 := grown_trans g0 (grown_trans (World.grownBy_alloc _ _ (some B)) hg1)
  generalize belowS len s ((4 : Nat) : Int) = s1 at hd1
  clear bx g0 hg1 hcells hd
  have CN := fun w => specNew_any (d : Int) w
  rw [newL_yes hdr] at CN
  go_wp2_with fail
  refine (CN _).mono ?_
  rintro e w2 ⟨v2, rfl, o2, b2⟩
  obtain ⟨a2, c2, rfl⟩ := o2.len
  rw [List.length_replicate] at o2 ⊢
  have hdb := ramN_pos hdr
  obtain ⟨g2, q2, hv2, _⟩ := o2.cells (by rw [List.length_replicate]; omega)
  rw [List.length_replicate] at hv2
  simp only [Value.slice.injEq] at hv2
  obtain ⟨rfl, _, rfl⟩ := hv2
  have hgg := ((World.ownsRow.lt o2.2) g2 rfl)
  have hd2 := hd1.below b2
  have gg2 := grown_trans gg1 (grown_of_below b2)
  have bx2 := bx1.below b2
  have d3 : Below w2.heap.size w2 (w2.alloc (.cells #[.slice (some ⟨g2, 0, none⟩) d c2] 30)) := (Below.refl _ _).alloc (Nat.le_refl _) _
  have p3 : BoxN (w2.alloc (.cells #[.slice (some ⟨g2, 0, none⟩) d c2] 30)) w2.heap.size 30 #[.slice (some ⟨g2, 0, none⟩) d c2] := BoxN.new _ _ _
  have hd3 := hd2.below d3
  have gg3 := grown_trans gg2 (grown_of_below d3)
  have bx3 := bx2.below d3
  have o3 := o2.below d3
  have hs1 := gg1.size
  have hlt1 := bx1.lt
  have hs2 := b2.size
  clear hd1 gg1 bx1 hd2 gg2 bx2 d3 b2 o2 CN
  go_wp2_with fail
  refine (bytes_drawn2 n₀ B a len cap z s1 60 (by omega) _ hd3).mono ?_
  rintro e w4 ⟨v4, X, s4, hX, rfl, o4, hd4, hg4⟩
  obtain ⟨g4, q4, rfl, _⟩ := o4.cells (by omega)
  have hg4b := ((World.ownsRow.lt o4.2) g4 rfl)
  rw [World.size_alloc] at o4 hg4b
  have p4 := p3.grown hg4 (by omega)
  have bx4 := bx3.grown hg4 (by omega)
  have o34 := o3.grown hg4 (by omega)
  have gg4 := grown_trans gg3 hg4
  have hs4 := hg4.size
  rw [World.size_alloc] at hs4
  clear p3 bx3 o3 gg3 hg4 hd3
  have HO4 := Lib.hid o4
  have HX := Lib.hid o4.row.2
  have H0 := Lib.hid (And.intro p4 (And.intro bx4 (And.intro o34 (And.intro hd4 gg4))))
  have hXb : 60 ≤ X.length ∧ X.length ≤ 180 := by omega
  clear o4 p4 bx4 o34 hd4 gg4 hX
  go_wp2
  go_loopw [5] (fun i wr => ∃ (j : Nat) (M : List Nat), j ≤ d ∧ i = .int .i64 j ∧ Hid (M.length = d ∧ OwnB wr w1.heap.size (.slice (some ⟨g2, 0, none⟩) d c2) M ∧ OwnB wr (w2.heap.size + 1) (.slice (some ⟨g4, 0, none⟩) X.length q4) X ∧ BoxN wr w2.heap.size 30 #[.slice (some ⟨g2, 0, none⟩) d c2] ∧ BoxN wr w.heap.size 30 #[.slice none 0 0] ∧ Drawn n₀ B a len cap z s4 wr ∧ w.grownBy wr (some B))) (fun i _ => d - (intOf i).toNat)
  case atStart => exact ⟨0, List.replicate d 0, Nat.zero_le _, rfl, Lib.hid ⟨List.length_replicate, H0.out.2.2.1, HO4.out, H0.out.1, H0.out.2.1, H0.out.2.2.2.1, H0.out.2.2.2.2⟩⟩
  case round =>
    obtain ⟨j, M, hj, rfl, HI⟩ := hrel
    obtain ⟨hM, oM, oX, pM, bM, hdM, ggM⟩ := HI.out
    have cM := pM.cell 0 (.slice (some ⟨g2, 0, none⟩) d c2) rfl
    by_cases hp : j < d
    · obtain ⟨q, hq⟩ : ∃ q, j / 97 = q := ⟨_, rfl⟩
      obtain ⟨k, hk⟩ : ∃ k, (j * 7 + q) % X.length = k := ⟨_, rfl⟩
      have hq2 : q ≤ 4096 := by omega
      have hkl : k < X.length := by rw [← hk]; exact Nat.mod_lt _ (by omega)
      have y1 : IntKind.i64.wrap ((j : Int) * 7) = (j : Int) * 7 := IntWalk.i64_in _ (by omega)
      have y2 : (j : Int).tdiv 97 = (q : Int) := by rw [Int.tdiv_eq_ediv_of_nonneg (by omega)]; omega
      have y3 : IntKind.i64.wrap (q : Int) = (q : Int) := IntWalk.i64_in _ (by omega)
      have y4 : IntKind.i64.wrap ((j : Int) * 7 + (q : Int)) = (j : Int) * 7 + (q : Int) := IntWalk.i64_in _ (by omega)
      have y5 : ((j : Int) * 7 + (q : Int)).tmod (X.length : Int) = (k : Int) := by
        rw [show (j : Int) * 7 + (q : Int) = ((j * 7 + q : Nat) : Int) by omega, idx_rem _ _ (by omega), hk]
      have y6 : IntKind.i64.wrap (k : Int) = (k : Int) := IntWalk.i64_in _ (by omega)
      have y7 : ¬ (X.length : Int) = 0 := by omega
      have y8 : ((X.length : Int) == 0) = false := beq_eq_false_iff_ne.2 (by omega)
      have y9 : ¬ X.length = 0 := by omega
      have ij : (0 : Int) ≤ (j : Int) ∧ (j : Int) < (d : Int) := by omega
      have ik : (0 : Int) ≤ (k : Int) ∧ (k : Int) < (X.length : Int) := by omega
      obtain ⟨hcj, hfj⟩ := ownB_cell oM (k := j) (by omega)
      obtain ⟨hck, _⟩ := ownB_cell oX (k := k) hkl
      obtain ⟨y, hy⟩ : ∃ y, M.getD j 0 = y := ⟨_, rfl⟩
      obtain ⟨x, hx⟩ : ∃ x, X.getD k 0 = x := ⟨_, rfl⟩
      have hx2 : x < 256 := by rw [← hx]; exact oX.1 k hkl
      rw [hy] at hcj
      rw [hx] at hck
      have HOM := Lib.hid oM
      have HOX := Lib.hid oX
      clear hy hx hk hq oM oX
      go_wp2_with fail
      go_still_tail 15, (by kernel_rfl)
      change wpList _ _ _ _ _ wr.drew
      have hcj' : wr.drew.cell? ⟨g2, j, none⟩ = some (.int .u8 (y : Int)) := hcj
      have hfj' : wr.drew.frozen? ⟨g2, j, none⟩ = false := hfj
      have HOM' : Hid (OwnB wr.drew w1.heap.size (.slice (some ⟨g2, 0, none⟩) d c2) M) := Lib.hid HOM.out
      have HOX' : Hid (OwnB wr.drew (w2.heap.size + 1) (.slice (some ⟨g4, 0, none⟩) X.length q4) X) := Lib.hid HOX.out
      have pM' := pM.drew
      have bM' := bM.drew
      have hdM' : Drawn n₀ B a len cap z s4 wr.drew := hdM
      have ggM' : w.grownBy wr.drew (some B) := grown_trans ggM (grown_of_below (Below.refl _ _).drew)
      clear hcj hfj HOM HOX pM bM hdM ggM hck cM HI y1 y2 y3 y4 y5 y6 y7 y8
      generalize wr.drew = w5 at hcj' hfj' HOM' HOX' pM' bM' hdM' ggM' ⊢
      obtain ⟨hO5, hg5⟩ := ownB_set (k := j) HOM'.out hM.symm hx2
      have HO5 := Lib.hid hO5
      have HG5 := Lib.hid hg5
      clear hO5 hg5 HOM'
      go_wp2
      go_roundw
      case rel =>
        exact ⟨j + 1, M.set j x, by omega, by go_num, Lib.hid ⟨by rw [List.length_set]; exact hM, HO5.out, ownB_ne HOX'.out HG5.out (fun t ht => by simp [Value.ownBlock] at ht; omega), pM'.grown HG5.out (by omega), bM'.grown HG5.out (by omega), hdM'.grown HG5.out (fun t ht => by simp at ht; omega), grown_own ggM' HG5.out (fun t ht => by simp at ht; omega)⟩⟩
      case measure => simp [intOf]; omega
    · obtain rfl : j = d := by omega
      have CF := fun (addr : Nat) (ha : addr < 65536) W hr hx => specFill_any (some ⟨g2, 0, none⟩) c2 addr M (some ⟨g4, 0, none⟩) q4 X ha W hr hx (by unfold maxLen; omega)
      rw [hM] at CF
      obtain ⟨P, hP0, hP2⟩ : ∃ P : Nat, belowV z len s4 4096 = (P : Int) ∧ P < 4096 := by
        obtain ⟨u0, u1⟩ := belowV_bound z len s4 4096 (by omega)
        exact ⟨(belowV z len s4 4096).toNat, by omega, by omega⟩
      have CB := fun W hd => below_drawn n₀ B a len cap z s4 4096 W hd
      rw [hP0] at CB
      generalize belowS len s4 4096 = s5 at CB
      have y1 : IntKind.u16.wrap (P : Int) = (P : Int) := by rw [IntKind.wrap_u16]; omega
      have S0 : wr.drew.cell? ⟨w2.heap.size, 0, none⟩ = some (.slice (some ⟨g2, 0, none⟩) j c2) ∧ w2.heap.size < wr.drew.heap.size := ⟨cM, pM.lt⟩
      have oM' : OwnB wr.drew w1.heap.size (.slice (some ⟨g2, 0, none⟩) j c2) M := oM
      have oX' : OwnB wr.drew (w2.heap.size + 1) (.slice (some ⟨g4, 0, none⟩) X.length q4) X := oX
      have bM' := bM.drew
      have hdM' : Drawn n₀ B a len cap z s4 wr.drew := hdM
      have ggM' : w.grownBy wr.drew (some B) := grown_trans ggM (grown_of_below (Below.refl _ _).drew)
      have hsw := ggM.size
      clear pM bM hdM ggM oM oX HI
      go_wp2_with fail
      go_region_held3 (fun w' => w'.cell? ⟨w2.heap.size, 0, none⟩ = some (.slice (some ⟨g2, 0, none⟩) j c2) ∧ w2.heap.size < w'.heap.size)
        (((try dsimp only); (first | (with_reducible exact S0) | (exact one_grown hg5 (by omega) S0) | (exact one_keep2 d6 (one_grown hg5 (by omega) S0)) | (exact one_set (by omega) (one_keep2 d6 (one_grown hg5 (by omega) S0))))))
        (first | (go_at_call 67; with_reducible refine (CB _ hdM').mono ?_; rintro e w5 ⟨rfl, hd5, hg5⟩) | (go_at_call 65; with_reducible refine (CF P (by omega) _ (oM'.grown hg5 (by omega)).row.2 (oX'.grown hg5 (by omega)).row.2).mono ?_; rintro e w6 ⟨v6, rfl, o6, d6⟩; obtain ⟨a6, c6, rfl⟩ := o6.len; have rR := ((bM'.grown hg5 (by omega)).below d6); have cR := rR.cell 0 (.slice none 0 0) rfl; have fR := rR.frozen 0))
      have gg6 := grown_trans (grown_trans ggM' hg5) (grown_of_below (row := some B) d6)
      have hd6 := hd5.below d6
      have hs5 := hg5.size
      have cR2 := (rR.set 0 (.slice a6 (fillL M P X).length c6)).cell 0 (.slice a6 (fillL M P X).length c6) rfl
      go_wp2
      refine bodyPost_ret (v := ramV (.slice a6 (fillL M P X).length c6)) (by simp [results, Tryz.results63, go_sem, cR2]) rfl ⟨_, fillL M P X, s5, ?_, rfl, ?_, ?_, ?_⟩
      · unfold fillL; split
        · rw [fillAt_len]; omega
        · simp
      · exact ownB_ne (OwnB.base o6 (by omega)) (grownB_set _ _ _) (fun t ht => by have := ((World.ownsRow.lt o6.2) t ht).1; omega)
      · exact hd6.setCell hlt _
      · exact grown_setCell gg6 (Nat.le_refl _) _

def anyL : List Int := [0, 255, 257, 768, 8192]
theorem anyL_bd (i : Nat) : ∃ d : Nat, anyL[i]?.getD 0 = (d : Int) ∧ d ≤ 8192 := by
  unfold anyL
  rcases i with _ | _ | _ | _ | _ | i
  · exact ⟨0, rfl, by omega⟩
  · exact ⟨255, rfl, by omega⟩
  · exact ⟨257, rfl, by omega⟩
  · exact ⟨768, rfl, by omega⟩
  · exact ⟨8192, rfl, by omega⟩
  · exact ⟨0, rfl, by omega⟩

set_option maxRecDepth 100000 in
set_option maxHeartbeats 1000000 in
theorem any_drawn (n₀ B : Nat) (a : Option Addr) (len cap : Nat) (z : List Int) (s : Nat × Int) (w : World) (h : Drawn n₀ B a len cap z s w) :
    Calls Tryz.prog 35 #[.pointer (some ⟨B, 0, none⟩)] w (DrewRam n₀ B a len cap z w) := by
  have hlt := h.lt
  have bx := BoxN.new w 30 #[.slice none 0 0]
  have g0 := World.grownBy_alloc w (.cells #[.slice none 0 0] 30) (some B)
  go_enter Tryz.func35, Tryz.ntmps35
  go_wp2_with fail
  refine (once_drawn n₀ B a len cap z s 10 _ (h.alloc _)).mono ?_
  rintro e w1 ⟨rfl, hd1, hg1⟩
  have bx1 := bx.grown hg1 (by omega)
  have gg1 := grown_trans g0 hg1
  have hlt1 := bx1.lt
  clear bx g0 hg1
  cases ho : (belowV z len s 10 == 0) with
  | true =>
    generalize belowS len s 10 = s1 at hd1
    go_wp2_with fail
    have hcells := ints_cells w1 anyL 3
    refine (pickInt_drawn n₀ B a len cap z s1 w1.heap.size 5 5 anyL _ (hd1.alloc _) (by omega) (by omega) (by have := hd1.lt; omega) (by simp) (fun i hi => hcells i hi)).mono ?_
    rintro e w2 ⟨rfl, hd2, hg2⟩
    obtain ⟨d, hd, hd8⟩ := anyL_bd (belowV z len s1 ((5 : Nat) : Int)).toNat
    rw [hd]
    have bx2 := ((bx1.below ((Below.refl _ _).alloc (Nat.le_refl _) _)).grown hg2 (by omega))
    have gg2 := grown_trans gg1 (grown_trans (World.grownBy_alloc _ _ (some B)) hg2)
    have hs2 := hg2.size
    generalize belowS len s1 ((5 : Nat) : Int) = s2 at hd2
    clear bx1 gg1 hg2 hcells hd hd1
    have hmk := fun w => makeB d (by omega) w
    obtain ⟨V, hV⟩ : ∃ V, Value.slice (some ⟨w2.heap.size, 0, none⟩) d d = V := ⟨_, rfl⟩
    have hlt2 := bx2.lt
    have bx3 := bx2.below ((Below.refl _ _).alloc (Nat.le_refl _) (.cells (Array.replicate d (Value.int .u8 0)) 5))
    have cR := bx3.cell 0 (.slice none 0 0) rfl
    have fR := bx3.frozen 0
    have bs := bx2.set 0 (.slice (some ⟨w2.heap.size, 0, none⟩) d d)
    have hsz : (w2.setCell ⟨w.heap.size, 0, none⟩ (.slice (some ⟨w2.heap.size, 0, none⟩) d d)).heap.size = w2.heap.size := by simp
    have cR2 := (bs.below ((Below.refl _ _).alloc (Nat.le_refl _) (.cells (Array.replicate d (Value.int .u8 0)) 5))).cell 0 (.slice (some ⟨w2.heap.size, 0, none⟩) d d) rfl
    have o3 : OwnB ((w2.setCell ⟨w.heap.size, 0, none⟩ (.slice (some ⟨w2.heap.size, 0, none⟩) d d)).alloc (.cells (Array.replicate d (Value.int .u8 0)) 5)) w2.heap.size (.slice (some ⟨w2.heap.size, 0, none⟩) d d) (List.replicate d 0) := by
      have := ownNewB (w2.setCell ⟨w.heap.size, 0, none⟩ (.slice (some ⟨w2.heap.size, 0, none⟩) d d)) (List.replicate d 0) (by rw [List.length_replicate]; unfold maxLen; omega) (fun i hi => by simp [List.getD, List.getElem?_replicate]; split <;> simp)
      rw [hsz] at this
      simp only [List.length_replicate, List.map_replicate, u8V, List.toArray_replicate] at this
      exact this
    have hd3 := (hd2.setCell (p := ⟨w.heap.size, 0, none⟩) hlt (.slice (some ⟨w2.heap.size, 0, none⟩) d d)).alloc (.cells (Array.replicate d (Value.int .u8 0)) 5)
    have gg3 := grown_trans (grown_setCell gg2 (p := ⟨w.heap.size, 0, none⟩) (Nat.le_refl _) (.slice (some ⟨w2.heap.size, 0, none⟩) d d)) (World.grownBy_alloc _ (.cells (Array.replicate d (Value.int .u8 0)) 5) (some B))
    have HO3 := Lib.hid o3
    clear o3 bx2 gg2 hd2 hV bs hsz
    go_wp2
    refine bodyPost_ret (v := ramV (.slice (some ⟨w2.heap.size, 0, none⟩) d d)) (by simp [results, Tryz.results35, go_sem, cR2]) rfl ⟨_, List.replicate d 0, s2, by rw [List.length_replicate]; exact hd8, rfl, ?_, hd3, gg3⟩
    exact OwnB.base HO3.out (by omega)
  | false =>
    generalize belowS len s 10 = s1 at hd1
    go_wp2_with fail
    refine (ram_drawn n₀ B a len cap z s1 _ hd1).mono ?_
    rintro e w2 ⟨v2, L, s2, hL, rfl, o2, hd2, hg2⟩
    obtain ⟨a2, c2, rfl⟩ := o2.len
    have bx2 := bx1.grown hg2 (by omega)
    have gg2 := grown_trans gg1 hg2
    have cR := bx2.cell 0 (.slice none 0 0) rfl
    have fR := bx2.frozen 0
    have cR2 := (bx2.set 0 (.slice a2 L.length c2)).cell 0 (.slice a2 L.length c2) rfl
    have HO2 := Lib.hid o2
    clear bx1 gg1 hg2 hd1 o2
    go_wp2
    refine bodyPost_ret (v := ramV (.slice a2 L.length c2)) (by simp [results, Tryz.results35, go_sem, cR2]) rfl ⟨_, L, s2, hL, rfl, ?_, ?_, ?_⟩
    · exact ownB_ne (OwnB.base HO2.out (by omega)) (grownB_set _ _ _) (fun t ht => by have := ((World.ownsRow.lt HO2.out.2) t ht).1; omega)
    · exact hd2.setCell hlt _
    · exact grown_setCell gg2 (Nat.le_refl _) _

end Go.Proofs.YtblchdmemhhcbaaGreat

namespace Go.Proofs.YtblchdmemhhcbaaGreat
set_option linter.unusedVariables false
set_option linter.unusedSimpArgs false
open Go.RowKit

/-- A machine that is drawn: its memory's bytes lie in memory of its own, above the cursor. -/
def DrewSmall (n₀ B : Nat) (a : Option Addr) (len cap : Nat) (z : List Int) (w : World) (e : Ending) (w' : World) : Prop :=
  ∃ (c : CpuN) (v : Value) (M : List Nat) (s : Nat × Int), c.ok ∧ M.length ≤ 8192 ∧ e = .returned (.tuple #[cpuV c, ramV v]) ∧ OwnB w' w.heap.size v M ∧ Drawn n₀ B a len cap z s w' ∧ w.grownBy w' (some B)

theorem fillL_le {L : List Nat} {addr : Nat} {X : List Nat} (h : L.length ≤ 8192) : (fillL L addr X).length ≤ 8192 := by
  unfold fillL; split
  · rw [fillAt_len]; exact h
  · simp

abbrev curF (w : World) (B : Nat) : Nat → Prop := fun i => i = B ∨ w.heap.size ≤ i

theorem Turn.cur {w w' : World} {B : Nat} (h : Turn (curF w B) w w') : w.grownBy w' (some B) :=
  ⟨h.os, h.tape, h.output, h.size, fun i hi hn => h.block i hi (fun hf => by rcases hf with e | e; exact hn (by rw [e]); omega)⟩

theorem elevenOne {W : World} {B C : Nat} {t u : TypeId} {a0 a1 a2 a3 a4 a5 a6 a7 a8 a9 a10 v : Value} (h : BoxN W B t #[a0, a1, a2, a3, a4, a5, a6, a7, a8, a9, a10]) (k : BoxN W C u #[v]) :
    W.cell? ⟨B, 0, none⟩ = some a0 ∧ W.cell? ⟨B, 1, none⟩ = some a1 ∧ W.cell? ⟨B, 2, none⟩ = some a2 ∧ W.cell? ⟨B, 3, none⟩ = some a3 ∧ W.cell? ⟨B, 4, none⟩ = some a4 ∧ W.cell? ⟨B, 5, none⟩ = some a5 ∧ W.cell? ⟨B, 6, none⟩ = some a6 ∧ W.cell? ⟨B, 7, none⟩ = some a7 ∧ W.cell? ⟨B, 8, none⟩ = some a8 ∧ W.cell? ⟨B, 9, none⟩ = some a9 ∧ W.cell? ⟨B, 10, none⟩ = some a10 ∧ W.cell? ⟨C, 0, none⟩ = some v :=
  ⟨h.cell 0 _ rfl, h.cell 1 _ rfl, h.cell 2 _ rfl, h.cell 3 _ rfl, h.cell 4 _ rfl, h.cell 5 _ rfl, h.cell 6 _ rfl, h.cell 7 _ rfl, h.cell 8 _ rfl, h.cell 9 _ rfl, h.cell 10 _ rfl, k.cell 0 _ rfl⟩

theorem Drawn.set {n₀ B : Nat} {a : Option Addr} {len cap : Nat} {z : List Int} {s : Nat × Int} {w : World} {n k : Nat} {v : Value} (h : Drawn n₀ B a len cap z s w) (hn : B < n) : Drawn n₀ B a len cap z s (w.setCell ⟨n, k, none⟩ v) := h.grown (grownBy_set1 w n k v) (fun j ej => by simp only [Option.some.injEq] at ej; omega)

theorem cells12_set {W : World} {n k : Nat} {x : Value} {B C : Nat} {a0 a1 a2 a3 a4 a5 a6 a7 a8 a9 a10 a11 : Value} (hB : B ≠ n) (hC : C ≠ n)
    (h : W.cell? ⟨B, 0, none⟩ = some a0 ∧ W.cell? ⟨B, 1, none⟩ = some a1 ∧ W.cell? ⟨B, 2, none⟩ = some a2 ∧ W.cell? ⟨B, 3, none⟩ = some a3 ∧ W.cell? ⟨B, 4, none⟩ = some a4 ∧ W.cell? ⟨B, 5, none⟩ = some a5 ∧ W.cell? ⟨B, 6, none⟩ = some a6 ∧ W.cell? ⟨B, 7, none⟩ = some a7 ∧ W.cell? ⟨B, 8, none⟩ = some a8 ∧ W.cell? ⟨B, 9, none⟩ = some a9 ∧ W.cell? ⟨B, 10, none⟩ = some a10 ∧ W.cell? ⟨C, 0, none⟩ = some a11) :
    (W.setCell ⟨n, k, none⟩ x).cell? ⟨B, 0, none⟩ = some a0 ∧ (W.setCell ⟨n, k, none⟩ x).cell? ⟨B, 1, none⟩ = some a1 ∧ (W.setCell ⟨n, k, none⟩ x).cell? ⟨B, 2, none⟩ = some a2 ∧ (W.setCell ⟨n, k, none⟩ x).cell? ⟨B, 3, none⟩ = some a3 ∧ (W.setCell ⟨n, k, none⟩ x).cell? ⟨B, 4, none⟩ = some a4 ∧ (W.setCell ⟨n, k, none⟩ x).cell? ⟨B, 5, none⟩ = some a5 ∧ (W.setCell ⟨n, k, none⟩ x).cell? ⟨B, 6, none⟩ = some a6 ∧ (W.setCell ⟨n, k, none⟩ x).cell? ⟨B, 7, none⟩ = some a7 ∧ (W.setCell ⟨n, k, none⟩ x).cell? ⟨B, 8, none⟩ = some a8 ∧ (W.setCell ⟨n, k, none⟩ x).cell? ⟨B, 9, none⟩ = some a9 ∧ (W.setCell ⟨n, k, none⟩ x).cell? ⟨B, 10, none⟩ = some a10 ∧ (W.setCell ⟨n, k, none⟩ x).cell? ⟨C, 0, none⟩ = some a11 := by
  obtain ⟨h0, h1, h2, h3, h4, h5, h6, h7, h8, h9, h10, h11⟩ := h
  have e : ∀ (b o : Nat) (v : Value), b ≠ n → W.cell? ⟨b, o, none⟩ = some v → (W.setCell ⟨n, k, none⟩ x).cell? ⟨b, o, none⟩ = some v := fun b o v hn hv => by
    rw [← hv]
    have := Below.heap_setCell W ⟨n, k, none⟩ x b hn
    simp only [World.cell?, this]
  exact ⟨e _ _ _ hB h0, e _ _ _ hB h1, e _ _ _ hB h2, e _ _ _ hB h3, e _ _ _ hB h4, e _ _ _ hB h5, e _ _ _ hB h6, e _ _ _ hB h7, e _ _ _ hB h8, e _ _ _ hB h9, e _ _ _ hB h10, e _ _ _ hC h11⟩

set_option maxRecDepth 100000 in
set_option maxHeartbeats 4000000 in
theorem small_drawn (n₀ B : Nat) (a : Option Addr) (len cap : Nat) (z : List Int) (s : Nat × Int) (w : World) (h : Drawn n₀ B a len cap z s w) :
    Calls Tryz.prog 33 #[.pointer (some ⟨B, 0, none⟩)] w (DrewSmall n₀ B a len cap z w) := by
  have hlt := h.lt
  have d0 : Below w.heap.size w ((w.alloc (.cells zeroCpu 28)).alloc (.cells #[.slice none 0 0] 30)) := ((Below.refl _ _).alloc (Nat.le_refl _) _).alloc (by simp) _
  obtain ⟨y0, x0, _⟩ := two_call (w := w) (cs := zeroCpu) (zs := #[.slice none 0 0]) (t := 28) (u := 30) (Below.refl _ _)
  have h0 := h.below d0
  have T0 : Turn (curF w B) w ((w.alloc (.cells zeroCpu 28)).alloc (.cells #[.slice none 0 0] 30)) := Turn.of_below d0
  have z0 : ((w.alloc (.cells zeroCpu 28)).alloc (.cells #[.slice none 0 0] 30)).heap.size = w.heap.size + 1 + 1 := by simp
  go_enter Tryz.func33, Tryz.ntmps33
  go_wp2_with fail
  refine (ram_drawn n₀ B a len cap z s _ h0).mono ?_
  rintro e w2 ⟨v2, L, s2, hL, rfl, o2, hd2, hg2⟩
  obtain ⟨a2, c2, rfl⟩ := o2.len
  have y2 := y0.grown hg2 (by omega)
  have x2 := x0.grown hg2 (by omega)
  have T2 := T0.trans (Turn.of_grown hg2 (fun g e => by cases e; exact .inl rfl))
  have z2 : w.heap.size + 2 ≤ w2.heap.size := by have := hg2.size; omega
  rw [z0] at o2
  clear y0 x0 T0 z0 d0 h0 hg2 h
  have k3 : Below w2.heap.size w2 (w2.alloc (.cells #[.slice a2 L.length c2] 30)) := (Below.refl _ _).alloc (Nat.le_refl _) _
  have r3 : BoxN (w2.alloc (.cells #[.slice a2 L.length c2] 30)) w2.heap.size 30 #[.slice a2 L.length c2] := BoxN.new _ _ _
  have y3 := y2.below k3
  have x3 := x2.below k3
  have o3 := o2.below k3
  have hd3 := hd2.below k3
  have T3 := T2.trans (Turn.of_below k3)
  clear y2 x2 o2 hd2 T2 k3
  go_wp2_with fail
  refine (cpu_drawn n₀ B a len cap z s2 _ hd3).mono ?_
  rintro e w4 ⟨c, s4, hc, rfl, hd4, hg4⟩
  have r4 := r3.grown hg4 (by omega)
  have y4 := y3.grown hg4 (by omega)
  have x4 := x3.grown hg4 (by omega)
  have o4 := o3.grown hg4 (by omega)
  have T4 := T3.trans (Turn.of_grown hg4 (fun g e => by cases e; exact .inl rfl))
  have z4 : w2.heap.size + 1 ≤ w4.heap.size := by have := hg4.size; rw [World.size_alloc] at this; exact this
  clear r3 y3 x3 o3 hd3 T3 hg4
  have k5 : Below w4.heap.size w4 (w4.alloc (.cells (cpuCells c) 28)) := (Below.refl _ _).alloc (Nat.le_refl _) _
  have p5 : BoxN (w4.alloc (.cells (cpuCells c) 28)) w4.heap.size 28 (cpuCells c) := BoxN.new _ _ _
  have r5 := r4.below k5
  have y5 := y4.below k5
  have x5 := x4.below k5
  have o5 := o4.below k5
  have hd5 := hd4.below k5
  have T5 := T4.trans (Turn.of_below k5)
  have z5 : (w4.alloc (.cells (cpuCells c) 28)).heap.size = w4.heap.size + 1 := World.size_alloc _ _
  clear r4 y4 x4 o4 hd4 T4 k5
  obtain ⟨hA, hX, hY, hS, hP⟩ := hc
  go_wp2_with fail
  generalize w4.alloc (.cells (cpuCells c) 28) = w5 at p5 r5 y5 x5 o5 hd5 T5 z5 ⊢
  have hd5' : Drawn n₀ B a len cap z s4 w5.drew := hd5
  have o5' : OwnB w5.drew (w.heap.size + 1 + 1) (.slice a2 L.length c2) L := o5
  have T5' : Turn (curF w B) w w5.drew := T5.trans (Turn.of_below (Below.refl _ _).drew)
  have n1 : ¬ w4.heap.size = w.heap.size := by omega
  have n2 : ¬ w4.heap.size = w.heap.size + 1 := by omega
  have n3 : ¬ w2.heap.size = w.heap.size := by omega
  have n4 : ¬ w2.heap.size = w.heap.size + 1 := by omega
  have hS : w5.drew.cell? ⟨w4.heap.size, 0, none⟩ = some (.int .u8 (c.A : Int)) ∧ w5.drew.cell? ⟨w4.heap.size, 1, none⟩ = some (.int .u8 (c.X : Int)) ∧ w5.drew.cell? ⟨w4.heap.size, 2, none⟩ = some (.int .u8 (c.Y : Int)) ∧ w5.drew.cell? ⟨w4.heap.size, 3, none⟩ = some (.int .u8 (c.S : Int)) ∧ w5.drew.cell? ⟨w4.heap.size, 4, none⟩ = some (.int .u16 (c.PC : Int)) ∧ w5.drew.cell? ⟨w4.heap.size, 5, none⟩ = some (.bool c.N) ∧ w5.drew.cell? ⟨w4.heap.size, 6, none⟩ = some (.bool c.V) ∧ w5.drew.cell? ⟨w4.heap.size, 7, none⟩ = some (.bool c.D) ∧ w5.drew.cell? ⟨w4.heap.size, 8, none⟩ = some (.bool c.I) ∧ w5.drew.cell? ⟨w4.heap.size, 9, none⟩ = some (.bool c.Z) ∧ w5.drew.cell? ⟨w4.heap.size, 10, none⟩ = some (.bool c.C) ∧ w5.drew.cell? ⟨w2.heap.size, 0, none⟩ = some (.slice a2 L.length c2) := elevenOne p5.drew r5.drew
  go_region_held3 (fun w' => w'.cell? ⟨w4.heap.size, 0, none⟩ = some (.int .u8 (c.A : Int)) ∧ w'.cell? ⟨w4.heap.size, 1, none⟩ = some (.int .u8 (c.X : Int)) ∧ w'.cell? ⟨w4.heap.size, 2, none⟩ = some (.int .u8 (c.Y : Int)) ∧ w'.cell? ⟨w4.heap.size, 3, none⟩ = some (.int .u8 (c.S : Int)) ∧ w'.cell? ⟨w4.heap.size, 4, none⟩ = some (.int .u16 (c.PC : Int)) ∧ w'.cell? ⟨w4.heap.size, 5, none⟩ = some (.bool c.N) ∧ w'.cell? ⟨w4.heap.size, 6, none⟩ = some (.bool c.V) ∧ w'.cell? ⟨w4.heap.size, 7, none⟩ = some (.bool c.D) ∧ w'.cell? ⟨w4.heap.size, 8, none⟩ = some (.bool c.I) ∧ w'.cell? ⟨w4.heap.size, 9, none⟩ = some (.bool c.Z) ∧ w'.cell? ⟨w4.heap.size, 10, none⟩ = some (.bool c.C) ∧ w'.cell? ⟨w2.heap.size, 0, none⟩ = some (.slice a2 L.length c2))
    (((try dsimp only); (first | (with_reducible exact hS) | (with_reducible exact hS6) | (with_reducible exact hSF) | ((repeat (with_reducible refine cells12_set (B := w4.heap.size) (C := w2.heap.size) (by omega) (by omega) ?_)); (with_reducible exact hSF)))))
    (first | (go_at_call 66; refine (bytes_drawn n₀ B a len cap z s4 2 (by omega) _ hd5').mono ?_; rintro e w6 ⟨v6, X, s6, hX6, rfl, o6, hd6, hg6⟩; (obtain ⟨a6, c6, rfl⟩ := o6.len); (have hs6 : w5.heap.size ≤ w6.heap.size := hg6.size); (have p6 := p5.drew.grown hg6 (by omega)); (have r6 := r5.drew.grown hg6 (by omega)); (have hS6 := elevenOne p6 r6)) | (go_at_call 65; refine (specFill_any a2 c2 c.PC L a6 c6 X hP _ (o5'.grown hg6 (by omega)).row.2 o6.row.2 (by unfold maxLen; omega)).mono ?_; rintro e wF ⟨vF, rfl, oF, dF⟩; (obtain ⟨aF, cF, rfl⟩ := oF.len); (have yF := (y5.drew.grown hg6 (by omega)).below dF); (have xF := (x5.drew.grown hg6 (by omega)).below dF); (have hSF := elevenOne (p6.below dF) (r6.below dF)); (obtain ⟨h0, h1, h2, h3, h4, h5, h6, h7, h8, h9, h10, f1⟩ := eleven yF); (have x0c := xF.cell 0 _ rfl); (have fx := fun k => xF.frozen k)))
  all_goals
    have hsF : w6.heap.size ≤ wF.heap.size := dF.size
    have HQ := Lib.hid (And.intro oF (And.intro (hd6.below dF) ((T5'.trans (Turn.of_grown hg6 (fun g e => by cases e; exact .inl rfl))).trans (Turn.of_below dF))))
    clear oF hd6 hg6 dF yF xF p6 r6 hS hS6 hSF hd5 hd5' o5 o5' T5 T5' p5 r5 y5 x5 o6
    go_wp2
    refine bodyPost_ret (v := .tuple #[cpuV c, ramV (.slice aF (fillL L c.PC X).length cF)]) (by simp [results, Tryz.results33, go_sem, h0, h1, h2, h3, h4, h5, h6, h7, h8, h9, h10, x0c]) rfl ?_
    obtain ⟨oF, hdF, TF⟩ := HQ.out
    have sp : Span w.heap.size (w.heap.size + 2) wF ((set11 wF w.heap.size (.int .u8 (c.A : Int)) (.int .u8 (c.X : Int)) (.int .u8 (c.Y : Int)) (.int .u8 (c.S : Int)) (.int .u16 (c.PC : Int)) (.bool c.N) (.bool c.V) (.bool c.D) (.bool c.I) (.bool c.Z) (.bool c.C)).setCell ⟨w.heap.size + 1, 0, none⟩ (.slice aF (fillL L c.PC X).length cF)) := by
      repeat (any_goals (first | (with_reducible exact Span.refl _ _ _) | (with_reducible refine Span.inn ?_ _ ?_ ?_)))
      all_goals omega
    refine ⟨c, _, fillL L c.PC X, s6, ⟨hA, hX, hY, hS, hP⟩, fillL_le hL, rfl, OwnB.base (OwnB.spanned oF sp (fun k ek => by have := ((World.ownsRow.lt oF.2) k ek).1; omega)) (by omega), ?_, ?_⟩
    · repeat (with_reducible refine Drawn.set ?_ (by omega))
      exact hdF
    · exact Turn.cur (TF.trans ⟨sp.os, sp.tape, sp.output, sp.size, fun i hi hn => sp.block i hi (by by_cases hq : w.heap.size ≤ i; exact absurd (.inr hq) hn; omega)⟩)

end Go.Proofs.YtblchdmemhhcbaaGreat
