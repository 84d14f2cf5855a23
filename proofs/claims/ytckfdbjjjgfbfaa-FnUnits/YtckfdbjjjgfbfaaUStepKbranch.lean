/-
  Contracts over the program: the model's Step: a branch.
-/
import Derived.Test.YtckfdbjjjgfbfaaUStepK
import Derived.Deep.RegionWith
namespace Go.Proofs.Ytckfdbjjjgfbfaa
set_option linter.unusedVariables false
set_option linter.unusedSimpArgs false
open Go.RowKit

set_option maxRecDepth 100000 in
set_option maxHeartbeats 2000000 in
theorem step_branch (c : CpuN) (hc : c.ok) (g o cap : Nat) (L : List Nat) (h : ramN L.length = true) (hj : jamsN L c.PC = false) (hkk : opKind ((⟨L, []⟩ : BusN).get c.PC) = 5) (w : World) (hr : RowB w (some ⟨g, o, none⟩) L) :
    Calls Try.prog 54 #[cpuV c, ramV (.slice (some ⟨g, o, none⟩) L.length cap)] w (Stepped w (stepN c L)) := by
  have hc' := hc
  obtain ⟨hA, hX, hY, hS, hP⟩ := hc
  have HO := fun w => specOk_any (some ⟨g, o, none⟩) L.length cap w
  rw [h] at HO
  have hn := ramN_pos h
  have hgL : g < w.heap.size := by
    obtain ⟨g', o', e, hg', _⟩ := hr.2 (by omega)
    simp only [Option.some.injEq, Addr.mk.injEq] at e
    omega
  obtain ⟨i0, hi, hz0, hz1, hz2⟩ := info_parts infoU8
  obtain ⟨res, hres⟩ : ∃ r_, stepN c L = r_ := ⟨_, rfl⟩
  have HRES := Lib.hid hres
  rw [hres]
  have HH := Lib.hid h
  have HR := Lib.hid hr
  clear h hr hres
  go_enter Try.func54, Try.ntmps54
  go_wp2_with fail
  refine (HO _).mono ?_
  rintro e w1 ⟨rfl, d1⟩
  obtain ⟨q0, r0, y0, x0, b0, z0⟩ := four_call d1
  have hcp := (r0.below ((Below.refl _ w1).alloc (Nat.le_refl _) (.cells #[] 5))).cell 0 _ rfl
  have HN := Lib.hid (RowB.below (RowB.below HR.out b0) ((Below.refl _ w1).alloc (Nat.le_refl _) (.cells #[] 5)))
  have hO0 := emptyOwn (base := w1.heap.size) w1 rfl (Nat.le_refl _)
  clear d1 HO
  go_wp2_with (at_builtin; refine wpList_append_own _ rfl _ _ 22 rfl w1.heap.size 5 i0 (.int .u8 0) 1 1 Try.underlying22 hi hz0 hz1 hz2 rfl (by decide) _ _ _ rfl hO0 ⟨g, o, none⟩ L.length cap (L.map u8V) rfl (by simp) (rowCells HN.out) (u8V_one L) ?c3 ?c4 ?c5 ?_)
  case c3 => unfold maxLen; first | omega | (simp; omega)
  case c4 => first | omega | (simp; omega)
  case c5 => first | omega | (simp; done) | (simp; omega)
  intro v' w4 hown' hgrow _
  have hO4 : OwnB w4 w1.heap.size v' L := ⟨HR.out.1, by simpa using hown'⟩
  obtain ⟨g4, c4, rfl, _⟩ := hO4.cells (by omega)
  have hge := ((World.ownsRow.lt hO4.2) g4 rfl).1
  have b4 : Below w.heap.size w w4 := (b0.alloc (by omega) _).grown hgrow (by simp; omega) (fun j ej => by simp [Value.ownBlock] at ej; omega)
  have kp : ∀ j t cs, j < w.heap.size + 4 → BoxN w1 j t cs → BoxN w4 j t cs := fun j t cs hj hb => by
    have hb2 := hb.below ((Below.refl _ w1).alloc (Nat.le_refl _) (.cells #[] 5))
    exact (hgrow.block j hb2.lt (by simp [Value.ownBlock]; omega)).trans hb2
  have S0 := Sit.start b4 (by have := hgrow.size; simp at this; omega) hO4 (by omega)
  have al : Below w4.heap.size w4 (w4.alloc (.cells #[.slice (some ⟨g4, 0, none⟩) L.length c4, .slice none 0 0] 117)) := (Below.refl _ _).alloc (Nat.le_refl _) _
  have q1 := (kp _ _ _ (by omega) q0).below al
  have r1 := (kp _ _ _ (by omega) r0).below al
  have y1 := (kp _ _ _ (by omega) y0).below al
  have x1 := (kp _ _ _ (by omega) x0).below al
  have HN5 := Lib.hid (RowB.below HR.out (b4.alloc b4.size (.cells #[.slice (some ⟨g4, 0, none⟩) L.length c4, .slice none 0 0] 117)))
  have hbus := (BoxN.new w4 117 #[.slice (some ⟨g4, 0, none⟩) L.length c4, .slice none 0 0]).lt
  have hw4 : w.heap.size + 4 ≤ w4.heap.size := by have := hgrow.size; simp at this; omega
  clear hown' hgrow hO4 hge kp al q0 r0 y0 x0 b0 z0 hcp HN hO0 b4 HR
  obtain ⟨B, hB⟩ : ∃ r_, w4.heap.size = r_ := ⟨_, rfl⟩
  rw [hB] at S0 hbus hw4
  have pc0 := q1.cell 4 _ rfl
  have rc0 := r1.cell 0 _ rfl
  go_wp2_with fail
  refine (specJams_any (some ⟨g, o, none⟩) cap c.PC L hP _ HN5.out).mono ?_
  rintro e w6 ⟨rfl, d6⟩
  have q2 := q1.below d6
  have y2 := y1.below d6
  have x2 := x1.below d6
  have S2 := S0.below d6
  clear d6 q1 r1 y1 x1 S0 pc0 rc0 HN5 hbus hB
  rw [hj]
  have e : res = opN ⟨L, []⟩ c := by rw [← HRES.out]; unfold stepN; rw [if_pos HH.out, if_neg (by simp [hj])]
  obtain ⟨z, hz⟩ : ∃ r_, (⟨L, []⟩ : BusN).get c.PC = r_ := ⟨_, rfl⟩
  obtain ⟨b1, hb1⟩ : ∃ r_, (⟨L, []⟩ : BusN).rd c.PC = r_ := ⟨_, rfl⟩
  obtain ⟨k, hk⟩ : ∃ r_, opKind z = r_ := ⟨_, rfl⟩
  obtain ⟨i, hid⟩ : ∃ r_, opId z = r_ := ⟨_, rfl⟩
  obtain ⟨m, hm⟩ : ∃ r_, opMode z = r_ := ⟨_, rfl⟩
  have hN : opName z = opTx i := by unfold opName; rw [hid]
  have zb : z < 256 := by rw [← hz]; exact S2.bus.byte _
  have F0 : (⟨L, []⟩ : BusN).fit 0 := ⟨HH.out, by simp⟩
  have F1 : b1.fit 1 := by rw [← hb1]; exact F0.rd
  have hi0 : opId z ≠ 0 := by
    intro h0
    rw [← hz, get_peek HH.out hP] at h0
    unfold jamsN at hj
    rw [HH.out, h0] at hj
    simp at hj
  have hk0 : k ≠ 0 := by rw [← hk]; exact fun h => hi0 ((op_k0 zb).1 h)
  have HE := Lib.hid (show res = (if k = 1 then ({ impL c (opTx i).toList m with PC := (c.PC + 1) % 65536 }, b1.rd (c.PC + 1)) else if k = 5 then branchN b1 c (opTx i).toList else if k = 2 ∨ k = 3 ∨ k = 4 then dataN b1 c z else goN b1 c (opTx i).toList m) from by
    rw [e]
    unfold opN
    dsimp only
    rw [hz, hb1, hk, hN, hm])
  have Hz := Lib.hid hz
  have Hb1 := Lib.hid hb1
  have Hk := Lib.hid hk
  have Hi := Lib.hid hid
  have Hm := Lib.hid hm
  clear HRES hj e hz hb1 hk hid hm hN hi0
  have p4 := q2.cell 4 _ rfl
  go_wp2_with fail
  refine (S2.rd _ c.PC rfl (by omega) (F0.mono (by omega)) Hz.out Hb1.out).mono ?_
  rintro e w7 ⟨rfl, t7⟩
  have q3 := t7.box _ _ _ (Nat.le_refl _) (by omega) q2
  have y3 := t7.box _ _ _ (by omega) (by omega) y2
  have x3 := t7.box _ _ _ (by omega) (by omega) x2
  have S3 := t7.sit
  clear t7 q2 y2 x2 S2 p4 F0
  go_wp2_with fail
  refine (kind_at z zb Hk.out _).mono ?_
  rintro e w8 ⟨rfl, d8⟩
  have q4 := q3.below d8
  have y4 := y3.below d8
  have x4 := x3.below d8
  have S4 := S3.below d8
  clear d8 q3 y3 x3 S3
  obtain rfl : k = 5 := by rw [← Hk.out, ← Hz.out]; exact hkk
  obtain ⟨r, hr_⟩ : ∃ r_, branchN b1 c (opTx i).toList = r_ := ⟨_, rfl⟩
  have er : res = r := by rw [HE.out, if_neg (by decide), if_pos rfl, hr_]
  subst er
  have hbi := op_k5 zb Hk.out
  rw [Hi.out] at hbi
  have Hr := Lib.hid hr_
  clear hr_ HE
  go_wp2_with fail
  obtain ⟨g0, g1, g2, g3, g4, g5, g6, g7, g8, g9, g10, f0⟩ := eleven q4.drew
  go_region_with (first | (go_at_call 71; refine (name_at z zb Hi.out _).mono ?_; rintro e wN ⟨rfl, dN⟩; (have qA := q4.drew.below dN); clear g0 g1 g2 g3 g4 g5 g6 g7 g8 g9 g10 f0; obtain ⟨g0, g1, g2, g3, g4, g5, g6, g7, g8, g9, g10, f0⟩ := eleven qA) | (go_at_call 74; refine (branch_any _ B b1 c hc' i hbi (F1.mono (by omega)) _ (S4.drew.below dN).hF (S4.drew.below dN).bus Hr.out).mono ?_; rintro e wI ⟨rfl, hB_, hT_⟩; (have tB := (S4.drew.below dN).went hB_ hT_); (have qC := tB.box _ _ _ (Nat.le_refl _) (by omega) qA); clear g0 g1 g2 g3 g4 g5 g6 g7 g8 g9 g10 f0; obtain ⟨g0, g1, g2, g3, g4, g5, g6, g7, g8, g9, g10, f0⟩ := eleven qC))
  all_goals
    clear g0 g1 g2 g3 g4 g5 g6 g7 g8 g9 g10 f0
    have yC := tB.box _ _ _ (by omega) (by omega) (y4.drew.below dN)
    have xC := tB.box _ _ _ (by omega) (by omega) (x4.drew.below dN)
    have SC := tB.sit
    clear dN qA q4 y4 x4 S4 tB hB_ hT_
    have qN : BoxN (((((((((((wI.setCell ⟨w.heap.size, 0, none⟩ (.int .u8 (res.1.A : Int))).setCell ⟨w.heap.size, 1, none⟩ (.int .u8 (res.1.X : Int))).setCell ⟨w.heap.size, 2, none⟩ (.int .u8 (res.1.Y : Int))).setCell ⟨w.heap.size, 3, none⟩ (.int .u8 (res.1.S : Int))).setCell ⟨w.heap.size, 4, none⟩ (.int .u16 (res.1.PC : Int))).setCell ⟨w.heap.size, 5, none⟩ (.bool res.1.N)).setCell ⟨w.heap.size, 6, none⟩ (.bool res.1.V)).setCell ⟨w.heap.size, 7, none⟩ (.bool res.1.D)).setCell ⟨w.heap.size, 8, none⟩ (.bool res.1.I)).setCell ⟨w.heap.size, 9, none⟩ (.bool res.1.Z)).setCell ⟨w.heap.size, 10, none⟩ (.bool res.1.C)) w.heap.size 28 (cpuCells res.1) := eleven_set qC (.int .u8 (res.1.A : Int)) (.int .u8 (res.1.X : Int)) (.int .u8 (res.1.Y : Int)) (.int .u8 (res.1.S : Int)) (.int .u16 (res.1.PC : Int)) (.bool res.1.N) (.bool res.1.V) (.bool res.1.D) (.bool res.1.I) (.bool res.1.Z) (.bool res.1.C)
    have yN : BoxN (((((((((((wI.setCell ⟨w.heap.size, 0, none⟩ (.int .u8 (res.1.A : Int))).setCell ⟨w.heap.size, 1, none⟩ (.int .u8 (res.1.X : Int))).setCell ⟨w.heap.size, 2, none⟩ (.int .u8 (res.1.Y : Int))).setCell ⟨w.heap.size, 3, none⟩ (.int .u8 (res.1.S : Int))).setCell ⟨w.heap.size, 4, none⟩ (.int .u16 (res.1.PC : Int))).setCell ⟨w.heap.size, 5, none⟩ (.bool res.1.N)).setCell ⟨w.heap.size, 6, none⟩ (.bool res.1.V)).setCell ⟨w.heap.size, 7, none⟩ (.bool res.1.D)).setCell ⟨w.heap.size, 8, none⟩ (.bool res.1.I)).setCell ⟨w.heap.size, 9, none⟩ (.bool res.1.Z)).setCell ⟨w.heap.size, 10, none⟩ (.bool res.1.C)) (w.heap.size + 1 + 1) 28 zeroCpu := eleven_other yC (by omega) (.int .u8 (res.1.A : Int)) (.int .u8 (res.1.X : Int)) (.int .u8 (res.1.Y : Int)) (.int .u8 (res.1.S : Int)) (.int .u16 (res.1.PC : Int)) (.bool res.1.N) (.bool res.1.V) (.bool res.1.D) (.bool res.1.I) (.bool res.1.Z) (.bool res.1.C)
    have xN : BoxN (((((((((((wI.setCell ⟨w.heap.size, 0, none⟩ (.int .u8 (res.1.A : Int))).setCell ⟨w.heap.size, 1, none⟩ (.int .u8 (res.1.X : Int))).setCell ⟨w.heap.size, 2, none⟩ (.int .u8 (res.1.Y : Int))).setCell ⟨w.heap.size, 3, none⟩ (.int .u8 (res.1.S : Int))).setCell ⟨w.heap.size, 4, none⟩ (.int .u16 (res.1.PC : Int))).setCell ⟨w.heap.size, 5, none⟩ (.bool res.1.N)).setCell ⟨w.heap.size, 6, none⟩ (.bool res.1.V)).setCell ⟨w.heap.size, 7, none⟩ (.bool res.1.D)).setCell ⟨w.heap.size, 8, none⟩ (.bool res.1.I)).setCell ⟨w.heap.size, 9, none⟩ (.bool res.1.Z)).setCell ⟨w.heap.size, 10, none⟩ (.bool res.1.C)) (w.heap.size + 1 + 1 + 1) 30 #[.slice none 0 0] := eleven_other xC (by omega) (.int .u8 (res.1.A : Int)) (.int .u8 (res.1.X : Int)) (.int .u8 (res.1.Y : Int)) (.int .u8 (res.1.S : Int)) (.int .u16 (res.1.PC : Int)) (.bool res.1.N) (.bool res.1.V) (.bool res.1.D) (.bool res.1.I) (.bool res.1.Z) (.bool res.1.C)
    have SN : Sit (newF w) w 4 B (((((((((((wI.setCell ⟨w.heap.size, 0, none⟩ (.int .u8 (res.1.A : Int))).setCell ⟨w.heap.size, 1, none⟩ (.int .u8 (res.1.X : Int))).setCell ⟨w.heap.size, 2, none⟩ (.int .u8 (res.1.Y : Int))).setCell ⟨w.heap.size, 3, none⟩ (.int .u8 (res.1.S : Int))).setCell ⟨w.heap.size, 4, none⟩ (.int .u16 (res.1.PC : Int))).setCell ⟨w.heap.size, 5, none⟩ (.bool res.1.N)).setCell ⟨w.heap.size, 6, none⟩ (.bool res.1.V)).setCell ⟨w.heap.size, 7, none⟩ (.bool res.1.D)).setCell ⟨w.heap.size, 8, none⟩ (.bool res.1.I)).setCell ⟨w.heap.size, 9, none⟩ (.bool res.1.Z)).setCell ⟨w.heap.size, 10, none⟩ (.bool res.1.C)) _ := SC.eleven (.int .u8 (res.1.A : Int)) (.int .u8 (res.1.X : Int)) (.int .u8 (res.1.Y : Int)) (.int .u8 (res.1.S : Int)) (.int .u16 (res.1.PC : Int)) (.bool res.1.N) (.bool res.1.V) (.bool res.1.D) (.bool res.1.I) (.bool res.1.Z) (.bool res.1.C) (Nat.le_refl _) (by omega)
    generalize ((((((((((wI.setCell ⟨w.heap.size, 0, none⟩ (.int .u8 (res.1.A : Int))).setCell ⟨w.heap.size, 1, none⟩ (.int .u8 (res.1.X : Int))).setCell ⟨w.heap.size, 2, none⟩ (.int .u8 (res.1.Y : Int))).setCell ⟨w.heap.size, 3, none⟩ (.int .u8 (res.1.S : Int))).setCell ⟨w.heap.size, 4, none⟩ (.int .u16 (res.1.PC : Int))).setCell ⟨w.heap.size, 5, none⟩ (.bool res.1.N)).setCell ⟨w.heap.size, 6, none⟩ (.bool res.1.V)).setCell ⟨w.heap.size, 7, none⟩ (.bool res.1.D)).setCell ⟨w.heap.size, 8, none⟩ (.bool res.1.I)).setCell ⟨w.heap.size, 9, none⟩ (.bool res.1.Z)).setCell ⟨w.heap.size, 10, none⟩ (.bool res.1.C) = wZ at qN yN xN SN ⊢
    clear qC yC xC SC
    obtain ⟨gg, cc, vv, m0, m1, hBl, hBn, ho, hcy, hvv, hgg⟩ := SN.rows
    obtain ⟨g0, g1, g2, g3, g4, g5, g6, g7, g8, g9, g10, f0⟩ := eleven qN
    obtain ⟨h0, h1, h2, h3, h4, h5, h6, h7, h8, h9, h10, f1⟩ := eleven yN
    have x0c := xN.cell 0 _ rfl
    have fx := fun k => xN.frozen k
    have HQ := Lib.hid (And.intro SN (And.intro ho (And.intro hcy (And.intro hvv hgg))))
    clear ho hcy hvv hgg qN yN xN SN
    go_wp2_with fail
    go_region
    all_goals
      go_wp2
      refine bodyPost_ret (v := .tuple #[cpuV (res.1), ramV (.slice (some ⟨gg, 0, none⟩) (res.2).mem.length cc), vv]) (by simp [results, Try.results54, go_sem, g0, g1, g2, g3, g4, g5, g6, g7, g8, g9, g10, h0, h1, h2, h3, h4, h5, h6, h7, h8, h9, h10, x0c]) rfl ?_
      obtain ⟨SQ, ho, hcy, hvv, hgg⟩ := HQ.out
      refine Stepped.of SQ ho hcy hvv hgg ?_
      repeat (any_goals (first | (with_reducible exact Span.refl _ _ _) | (with_reducible refine Span.drew ?_) | (with_reducible refine Span.more ?_ _) | (with_reducible refine Span.inn ?_ _ ?_ ?_)))
      all_goals omega

end Go.Proofs.Ytckfdbjjjgfbfaa
