/-
  Contracts over the program: the model's Serve.
-/
import Derived.Test.YtckfdbjjjgfbfaaUStepK
namespace Go.Proofs.Ytckfdbjjjgfbfaa
set_option linter.unusedVariables false
set_option linter.unusedSimpArgs false
open Go.RowKit

set_option maxRecDepth 100000 in
set_option maxHeartbeats 1000000 in
theorem serve_no (c : CpuN) (nmi : Bool) (a : Option Addr) (cap : Nat) (L : List Nat) (h : ramN L.length = false) (w : World) :
    Calls Try.prog 52 #[cpuV c, ramV (.slice a L.length cap), .bool nmi] w (Stepped w (cpu0, ⟨[], []⟩)) := by
  have HO := fun w => specOk_any a L.length cap w
  rw [h] at HO
  clear h
  go_enter Try.func52, Try.ntmps52
  go_wp2_with fail
  refine (HO _).mono ?_
  rintro e w1 ⟨rfl, d1⟩
  obtain ⟨q0, r0, y0, x0, b0, z0⟩ := four_call d1
  obtain ⟨h0, h1, h2, h3, h4, h5, h6, h7, h8, h9, h10, f1⟩ := eleven y0
  have x0c := x0.cell 0 _ rfl
  have fx := fun k => x0.frozen k
  have n0 := y0.lt
  have n1 := x0.lt
  have B0 := Lib.hid b0
  clear d1 q0 r0 y0 x0 b0 HO
  go_wp2
  refine bodyPost_ret (v := .tuple #[cpuV cpu0, ramV (.slice none 0 0), .slice (some ⟨w1.heap.size, 0, none⟩) 0 0]) (by simp [results, Try.results52, go_sem, h0, h1, h2, h3, h4, h5, h6, h7, h8, h9, h10, x0c, cpu0, n0, n1]) rfl ⟨_, _, rfl, ownNil _ _, ?_, fun k ek => by simp [Value.ownBlock] at ek, ?_⟩
  · have := ram_new (((set11 w1 (w.heap.size + 1 + 1) (.int .u8 0) (.int .u8 0) (.int .u8 0) (.int .u8 0) (.int .u16 0) (.bool false) (.bool false) (.bool false) (.bool false) (.bool false) (.bool false)).setCell ⟨w.heap.size + 1 + 1 + 1, 0, none⟩ (.slice none 0 0))) (base := w.heap.size) (by simp; omega)
    simpa using this
  · have hW := B0.out
    repeat (any_goals (first | (with_reducible exact hW) | (with_reducible refine Below.drew ?_) | (with_reducible refine Below.setCell ?_ ?_ _) | (with_reducible refine Below.alloc ?_ ?_ _)))
    all_goals (first | (with_reducible exact Nat.le_refl _) | (simp; done) | (simp; omega))

set_option maxRecDepth 100000 in
set_option maxHeartbeats 2000000 in
theorem serve_yes (c : CpuN) (hc : c.ok) (nmi : Bool) (g o cap : Nat) (L : List Nat) (h : ramN L.length = true) (w : World) (hr : RowB w (some ⟨g, o, none⟩) L) :
    Calls Try.prog 52 #[cpuV c, ramV (.slice (some ⟨g, o, none⟩) L.length cap), .bool nmi] w (Stepped w (serveN ⟨L, []⟩ c nmi)) := by
  have hc' := hc
  obtain ⟨hA, hX, hY, hS, hP⟩ := hc
  have HO := fun w => specOk_any (some ⟨g, o, none⟩) L.length cap w
  rw [h] at HO
  have hn := ramN_pos h
  have hgL : g < w.heap.size := by
    obtain ⟨g', o', e, hg', _⟩ := hr.2 (by omega)
    simp only [Option.some.injEq, Addr.mk.injEq] at e
    omega
  obtain ⟨i0, hi, hz0, hz1, hz2⟩ := info_parts infoU8
  obtain ⟨res, hres⟩ : ∃ r_, serveN ⟨L, []⟩ c nmi = r_ := ⟨_, rfl⟩
  have HRES := Lib.hid hres
  rw [hres]
  have HH := Lib.hid h
  have HR := Lib.hid hr
  clear h hr hres
  go_enter Try.func52, Try.ntmps52
  go_wp2_with fail
  refine (HO _).mono ?_
  rintro e w1 ⟨rfl, d1⟩
  obtain ⟨q0, r0, y0, x0, b0, z0⟩ := four_call d1
  have hcp := (r0.below ((Below.refl _ w1).alloc (Nat.le_refl _) (.cells #[] 5))).cell 0 _ rfl
  have HN := Lib.hid (RowB.below (RowB.below HR.out b0) ((Below.refl _ w1).alloc (Nat.le_refl _) (.cells #[] 5)))
  have hO0 := emptyOwn (base := w1.heap.size) w1 rfl (Nat.le_refl _)
  clear d1 HO
  go_wp2_with (at_builtin; refine wpList_append_own _ rfl _ _ 22 rfl w1.heap.size 5 i0 (.int .u8 0) 1 1 Try.underlying22 hi hz0 hz1 hz2 rfl (by decide) _ _ _ rfl hO0 ⟨g, o, none⟩ L.length cap (L.map u8V) rfl (by simp) (rowCells HN.out) (u8V_one L) ?c3 ?c4 ?c5 ?_)
  case c3 => unfold maxLen; first | omega | (simp; omega)
  case c4 => first | omega | (simp; omega)
  case c5 => first | omega | (simp; done) | (simp; omega)
  intro v' w4 hown' hgrow _
  have hO4 : OwnB w4 w1.heap.size v' L := ⟨HR.out.1, by simpa using hown'⟩
  obtain ⟨g4, c4, rfl, _⟩ := hO4.cells (by omega)
  have hge := ((World.ownsRow.lt hO4.2) g4 rfl).1
  have b4 : Below w.heap.size w w4 := (b0.alloc (by omega) _).grown hgrow (by simp; omega) (fun j ej => by simp [Value.ownBlock] at ej; omega)
  have kp : ∀ j t cs, j < w.heap.size + 4 → BoxN w1 j t cs → BoxN w4 j t cs := fun j t cs hj hb => by
    have hb2 := hb.below ((Below.refl _ w1).alloc (Nat.le_refl _) (.cells #[] 5))
    exact (hgrow.block j hb2.lt (by simp [Value.ownBlock]; omega)).trans hb2
  have S0 := Sit.start b4 (by have := hgrow.size; simp at this; omega) hO4 (by omega)
  have al : Below w4.heap.size w4 (w4.alloc (.cells #[.slice (some ⟨g4, 0, none⟩) L.length c4, .slice none 0 0] 117)) := (Below.refl _ _).alloc (Nat.le_refl _) _
  have q1 := (kp _ _ _ (by omega) q0).below al
  have r1 := (kp _ _ _ (by omega) r0).below al
  have y1 := (kp _ _ _ (by omega) y0).below al
  have x1 := (kp _ _ _ (by omega) x0).below al
  have HN5 := Lib.hid (RowB.below HR.out (b4.alloc b4.size (.cells #[.slice (some ⟨g4, 0, none⟩) L.length c4, .slice none 0 0] 117)))
  have hbus := (BoxN.new w4 117 #[.slice (some ⟨g4, 0, none⟩) L.length c4, .slice none 0 0]).lt
  have hw4 : w.heap.size + 4 ≤ w4.heap.size := by have := hgrow.size; simp at this; omega
  clear hown' hgrow hO4 hge kp al q0 r0 y0 x0 b0 z0 hcp HN hO0 b4 HR
  obtain ⟨B, hB⟩ : ∃ r_, w4.heap.size = r_ := ⟨_, rfl⟩
  rw [hB] at S0 hbus hw4
  obtain ⟨za, hza⟩ : ∃ r_, (⟨L, []⟩ : BusN).get c.PC = r_ := ⟨_, rfl⟩
  obtain ⟨b1, hb1⟩ : ∃ r_, (⟨L, []⟩ : BusN).rd c.PC = r_ := ⟨_, rfl⟩
  obtain ⟨zc, hzc⟩ : ∃ r_, b1.get c.PC = r_ := ⟨_, rfl⟩
  obtain ⟨b2, hb2⟩ : ∃ r_, b1.rd c.PC = r_ := ⟨_, rfl⟩
  have F0 : (⟨L, []⟩ : BusN).fit 0 := ⟨HH.out, by simp⟩
  have F1 : b1.fit 1 := by rw [← hb1]; exact F0.rd
  have F2 : b2.fit 2 := by rw [← hb2]; exact F1.rd
  have er : pushN b2 c c.PC false (if nmi then 65530 else 65534) = res := by rw [← HRES.out]; unfold serveN; rw [hb1, hb2]
  have Hr := Lib.hid er
  have Hza := Lib.hid hza
  have Hb1 := Lib.hid hb1
  have Hzc := Lib.hid hzc
  have Hb2 := Lib.hid hb2
  clear er hza hb1 hzc hb2 HRES r1 HN5 hbus
  obtain ⟨g0, g1, g2, g3, g4, g5, g6, g7, g8, g9, g10, f0⟩ := eleven q1
  go_wp2_with fail
  refine (S0.rd _ c.PC rfl (by omega) (F0.mono (by omega)) Hza.out Hb1.out).mono ?_
  rintro e w7 ⟨rfl, t7⟩
  clear g0 g1 g2 g3 g4 g5 g6 g7 g8 g9 g10 f0
  have q3 := t7.box _ _ _ (Nat.le_refl _) (by omega) q1
  have y3 := t7.box _ _ _ (by omega) (by omega) y1
  have x3 := t7.box _ _ _ (by omega) (by omega) x1
  have S3 := t7.sit
  clear t7 q1 y1 x1 S0 F0
  obtain ⟨g0, g1, g2, g3, g4, g5, g6, g7, g8, g9, g10, f0⟩ := eleven q3
  go_wp2_with fail
  refine (S3.rd _ c.PC rfl (by omega) (F1.mono (by omega)) Hzc.out Hb2.out).mono ?_
  rintro e w8 ⟨rfl, t8⟩
  clear g0 g1 g2 g3 g4 g5 g6 g7 g8 g9 g10 f0
  have q4 := t8.box _ _ _ (Nat.le_refl _) (by omega) q3
  have y4 := t8.box _ _ _ (by omega) (by omega) y3
  have x4 := t8.box _ _ _ (by omega) (by omega) x3
  have S4 := t8.sit
  clear t8 q3 y3 x3 S3 F1
  obtain ⟨g0, g1, g2, g3, g4, g5, g6, g7, g8, g9, g10, f0⟩ := eleven q4
  cases nmi
  all_goals
    go_wp2_with fail
    refine (push_at _ B b2 c hc' c.PC hP false _ ?_ (F2.mono (by omega)) _ S4.hF S4.bus _ _ rfl ?_ Hr.out).mono ?_
    · simp
    · simp
    rintro e wI ⟨rfl, hB_, hT_⟩
    have tB := S4.went hB_ hT_
    have qC := tB.box _ _ _ (Nat.le_refl _) (by omega) q4
    have yC := tB.box _ _ _ (by omega) (by omega) y4
    have xC := tB.box _ _ _ (by omega) (by omega) x4
    have SC := tB.sit
    clear g0 g1 g2 g3 g4 g5 g6 g7 g8 g9 g10 f0
    clear q4 y4 x4 S4 tB hB_ hT_
    obtain ⟨g0, g1, g2, g3, g4, g5, g6, g7, g8, g9, g10, f0⟩ := eleven qC
    go_upto_region 10 with (fail)
    clear g0 g1 g2 g3 g4 g5 g6 g7 g8 g9 g10 f0
    have qN : BoxN (((((((((((wI.setCell ⟨w.heap.size, 0, none⟩ (.int .u8 (res.1.A : Int))).setCell ⟨w.heap.size, 1, none⟩ (.int .u8 (res.1.X : Int))).setCell ⟨w.heap.size, 2, none⟩ (.int .u8 (res.1.Y : Int))).setCell ⟨w.heap.size, 3, none⟩ (.int .u8 (res.1.S : Int))).setCell ⟨w.heap.size, 4, none⟩ (.int .u16 (res.1.PC : Int))).setCell ⟨w.heap.size, 5, none⟩ (.bool res.1.N)).setCell ⟨w.heap.size, 6, none⟩ (.bool res.1.V)).setCell ⟨w.heap.size, 7, none⟩ (.bool res.1.D)).setCell ⟨w.heap.size, 8, none⟩ (.bool res.1.I)).setCell ⟨w.heap.size, 9, none⟩ (.bool res.1.Z)).setCell ⟨w.heap.size, 10, none⟩ (.bool res.1.C)) w.heap.size 28 (cpuCells res.1) := eleven_set qC (.int .u8 (res.1.A : Int)) (.int .u8 (res.1.X : Int)) (.int .u8 (res.1.Y : Int)) (.int .u8 (res.1.S : Int)) (.int .u16 (res.1.PC : Int)) (.bool res.1.N) (.bool res.1.V) (.bool res.1.D) (.bool res.1.I) (.bool res.1.Z) (.bool res.1.C)
    have yN : BoxN (((((((((((wI.setCell ⟨w.heap.size, 0, none⟩ (.int .u8 (res.1.A : Int))).setCell ⟨w.heap.size, 1, none⟩ (.int .u8 (res.1.X : Int))).setCell ⟨w.heap.size, 2, none⟩ (.int .u8 (res.1.Y : Int))).setCell ⟨w.heap.size, 3, none⟩ (.int .u8 (res.1.S : Int))).setCell ⟨w.heap.size, 4, none⟩ (.int .u16 (res.1.PC : Int))).setCell ⟨w.heap.size, 5, none⟩ (.bool res.1.N)).setCell ⟨w.heap.size, 6, none⟩ (.bool res.1.V)).setCell ⟨w.heap.size, 7, none⟩ (.bool res.1.D)).setCell ⟨w.heap.size, 8, none⟩ (.bool res.1.I)).setCell ⟨w.heap.size, 9, none⟩ (.bool res.1.Z)).setCell ⟨w.heap.size, 10, none⟩ (.bool res.1.C)) (w.heap.size + 1 + 1) 28 zeroCpu := eleven_other yC (by omega) (.int .u8 (res.1.A : Int)) (.int .u8 (res.1.X : Int)) (.int .u8 (res.1.Y : Int)) (.int .u8 (res.1.S : Int)) (.int .u16 (res.1.PC : Int)) (.bool res.1.N) (.bool res.1.V) (.bool res.1.D) (.bool res.1.I) (.bool res.1.Z) (.bool res.1.C)
    have xN : BoxN (((((((((((wI.setCell ⟨w.heap.size, 0, none⟩ (.int .u8 (res.1.A : Int))).setCell ⟨w.heap.size, 1, none⟩ (.int .u8 (res.1.X : Int))).setCell ⟨w.heap.size, 2, none⟩ (.int .u8 (res.1.Y : Int))).setCell ⟨w.heap.size, 3, none⟩ (.int .u8 (res.1.S : Int))).setCell ⟨w.heap.size, 4, none⟩ (.int .u16 (res.1.PC : Int))).setCell ⟨w.heap.size, 5, none⟩ (.bool res.1.N)).setCell ⟨w.heap.size, 6, none⟩ (.bool res.1.V)).setCell ⟨w.heap.size, 7, none⟩ (.bool res.1.D)).setCell ⟨w.heap.size, 8, none⟩ (.bool res.1.I)).setCell ⟨w.heap.size, 9, none⟩ (.bool res.1.Z)).setCell ⟨w.heap.size, 10, none⟩ (.bool res.1.C)) (w.heap.size + 1 + 1 + 1) 30 #[.slice none 0 0] := eleven_other xC (by omega) (.int .u8 (res.1.A : Int)) (.int .u8 (res.1.X : Int)) (.int .u8 (res.1.Y : Int)) (.int .u8 (res.1.S : Int)) (.int .u16 (res.1.PC : Int)) (.bool res.1.N) (.bool res.1.V) (.bool res.1.D) (.bool res.1.I) (.bool res.1.Z) (.bool res.1.C)
    have SN : Sit (newF w) w 4 B (((((((((((wI.setCell ⟨w.heap.size, 0, none⟩ (.int .u8 (res.1.A : Int))).setCell ⟨w.heap.size, 1, none⟩ (.int .u8 (res.1.X : Int))).setCell ⟨w.heap.size, 2, none⟩ (.int .u8 (res.1.Y : Int))).setCell ⟨w.heap.size, 3, none⟩ (.int .u8 (res.1.S : Int))).setCell ⟨w.heap.size, 4, none⟩ (.int .u16 (res.1.PC : Int))).setCell ⟨w.heap.size, 5, none⟩ (.bool res.1.N)).setCell ⟨w.heap.size, 6, none⟩ (.bool res.1.V)).setCell ⟨w.heap.size, 7, none⟩ (.bool res.1.D)).setCell ⟨w.heap.size, 8, none⟩ (.bool res.1.I)).setCell ⟨w.heap.size, 9, none⟩ (.bool res.1.Z)).setCell ⟨w.heap.size, 10, none⟩ (.bool res.1.C)) _ := SC.eleven (.int .u8 (res.1.A : Int)) (.int .u8 (res.1.X : Int)) (.int .u8 (res.1.Y : Int)) (.int .u8 (res.1.S : Int)) (.int .u16 (res.1.PC : Int)) (.bool res.1.N) (.bool res.1.V) (.bool res.1.D) (.bool res.1.I) (.bool res.1.Z) (.bool res.1.C) (Nat.le_refl _) (by omega)
    generalize ((((((((((wI.setCell ⟨w.heap.size, 0, none⟩ (.int .u8 (res.1.A : Int))).setCell ⟨w.heap.size, 1, none⟩ (.int .u8 (res.1.X : Int))).setCell ⟨w.heap.size, 2, none⟩ (.int .u8 (res.1.Y : Int))).setCell ⟨w.heap.size, 3, none⟩ (.int .u8 (res.1.S : Int))).setCell ⟨w.heap.size, 4, none⟩ (.int .u16 (res.1.PC : Int))).setCell ⟨w.heap.size, 5, none⟩ (.bool res.1.N)).setCell ⟨w.heap.size, 6, none⟩ (.bool res.1.V)).setCell ⟨w.heap.size, 7, none⟩ (.bool res.1.D)).setCell ⟨w.heap.size, 8, none⟩ (.bool res.1.I)).setCell ⟨w.heap.size, 9, none⟩ (.bool res.1.Z)).setCell ⟨w.heap.size, 10, none⟩ (.bool res.1.C) = wZ at qN yN xN SN ⊢
    clear qC yC xC SC
    obtain ⟨gg, cc, vv, m0, m1, hBl, hBn, ho, hcy, hvv, hgg⟩ := SN.rows
    obtain ⟨g0, g1, g2, g3, g4, g5, g6, g7, g8, g9, g10, f0⟩ := eleven qN
    obtain ⟨h0, h1, h2, h3, h4, h5, h6, h7, h8, h9, h10, f1⟩ := eleven yN
    have x0c := xN.cell 0 _ rfl
    have fx := fun k => xN.frozen k
    have HQ := Lib.hid (And.intro SN (And.intro ho (And.intro hcy (And.intro hvv hgg))))
    clear ho hcy hvv hgg qN yN xN SN
    go_wp2_with fail
    go_region
    all_goals
      go_wp2
      refine bodyPost_ret (v := .tuple #[cpuV (res.1), ramV (.slice (some ⟨gg, 0, none⟩) (res.2).mem.length cc), vv]) (by simp [results, Try.results52, go_sem, g0, g1, g2, g3, g4, g5, g6, g7, g8, g9, g10, h0, h1, h2, h3, h4, h5, h6, h7, h8, h9, h10, x0c]) rfl ?_
      obtain ⟨SQ, ho, hcy, hvv, hgg⟩ := HQ.out
      refine Stepped.of SQ ho hcy hvv hgg ?_
      repeat (any_goals (first | (with_reducible exact Span.refl _ _ _) | (with_reducible refine Span.drew ?_) | (with_reducible refine Span.more ?_ _) | (with_reducible refine Span.inn ?_ _ ?_ ?_)))
      all_goals omega

/-- An interrupt in plain numbers. -/
def servedN (c : CpuN) (L : List Nat) (nmi : Bool) : CpuN × BusN := if ramN L.length = true then serveN ⟨L, []⟩ c nmi else (cpu0, ⟨[], []⟩)

theorem specServe_any (c : CpuN) (hc : c.ok) (nmi : Bool) (a : Option Addr) (cap : Nat) (L : List Nat) (w : World) (hr : RowB w a L) :
    Calls Try.prog 52 #[cpuV c, ramV (.slice a L.length cap), .bool nmi] w (Stepped w (servedN c L nmi)) := by
  cases h : ramN L.length with
  | false =>
    have e : servedN c L nmi = (cpu0, ⟨[], []⟩) := by unfold servedN; rw [h]; rfl
    rw [e]
    exact serve_no c nmi a cap L h w
  | true =>
    have hn := ramN_pos h
    obtain ⟨g, o, rfl, _, _⟩ := hr.2 (by omega)
    have e : servedN c L nmi = serveN ⟨L, []⟩ c nmi := by unfold servedN; rw [h]; rfl
    rw [e]
    exact serve_yes c hc nmi g o cap L h w hr

end Go.Proofs.Ytckfdbjjjgfbfaa
