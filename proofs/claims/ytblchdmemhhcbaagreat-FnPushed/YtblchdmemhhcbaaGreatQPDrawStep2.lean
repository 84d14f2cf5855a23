/-
  A machine that is drawn for a law (DrawStep, DrawServe).
-/
import Derived.Test.YtblchdmemhhcbaaGreatQSDrawStep
namespace Go.Proofs.YtblchdmemhhcbaaGreat
set_option linter.unusedVariables false
set_option linter.unusedSimpArgs false
open Go.RowKit

/-- A processor and a memory that are drawn. -/
def DrewMach (w : World) (e : Ending) (w' : World) : Prop :=
  ∃ (c : CpuN) (v : Value) (M : List Nat), c.ok ∧ M.length ≤ 8192 ∧ e = .returned (.tuple #[cpuV c, ramV v]) ∧ OwnB w' w.heap.size v M ∧ Below w.heap.size w w'

theorem drew_mach {w W W' : World} {c : CpuN} {a : Option Addr} {cap base : Nat} {L : List Nat} (hc : c.ok) (hL : L.length ≤ 8192) (ho : OwnB W base (.slice a L.length cap) L) (hd : Below w.heap.size w W) (hb : w.heap.size + 2 ≤ base) (hs : Span w.heap.size (w.heap.size + 2) W W') :
    DrewMach w (.returned (.tuple #[cpuV c, ramV (.slice a L.length cap)])) W' :=
  ⟨c, _, L, hc, hL, rfl, OwnB.base (OwnB.spanned ho hs (fun k ek => by have := ((World.ownsRow.lt ho.2) k ek).1; omega)) (by omega), hd.trans (hs.below (Nat.le_refl _) hd.size)⟩

set_option maxRecDepth 100000 in
set_option maxHeartbeats 4000000 in
theorem drawStep_any (n₀ : Nat) (a : Option Addr) (len cap : Nat) (z : List Int) (w : World) (hc : CodeRow n₀ w a len z) (hn : n₀ ≤ w.heap.size) :
    Calls Tryz.prog 9 #[.slice a len cap] w (DrewMach w) := by
  have d0 : Below w.heap.size w ((w.alloc (.cells zeroCpu 28)).alloc (.cells #[.slice none 0 0] 30)) := ((Below.refl _ _).alloc (Nat.le_refl _) _).alloc (by simp) _
  obtain ⟨y0, x0, _⟩ := two_call (w := w) (cs := zeroCpu) (zs := #[.slice none 0 0]) (t := 28) (u := 30) (Below.refl _ _)
  have z0 : ((w.alloc (.cells zeroCpu 28)).alloc (.cells #[.slice none 0 0] 30)).heap.size = w.heap.size + 1 + 1 := by simp
  have hc0 := hc.kept (d0.mono hn)
  have hn0 : n₀ ≤ ((w.alloc (.cells zeroCpu 28)).alloc (.cells #[.slice none 0 0] 30)).heap.size := Nat.le_trans hn d0.size
  have hst := hc0.startS (cap := cap) hn0
  rw [z0] at hst
  go_enter Tryz.func9, Tryz.ntmps9
  go_wp2_with fail
  refine (new_any n₀ a len cap z _ hc0).mono ?_
  rintro e w1 ⟨rfl, rfl⟩
  have al := (Below.refl ((w.alloc (.cells zeroCpu 28)).alloc (.cells #[.slice none 0 0] 30)).heap.size ((w.alloc (.cells zeroCpu 28)).alloc (.cells #[.slice none 0 0] 30))).alloc (Nat.le_refl _) (.cells #[.slice a len cap, .int .i64 0, .int .i64 (startH z len)] 95)
  have d1 := bstep d0 al
  have y1 := y0.below al
  have x1 := x0.below al
  rw [z0]
  generalize ((w.alloc (.cells zeroCpu 28)).alloc (.cells #[.slice none 0 0] 30)).alloc (.cells #[.slice a len cap, .int .i64 0, .int .i64 (startH z len)] 95) = w1 at hst d1 y1 x1 ⊢
  have hlt := hst.lt
  clear y0 x0 d0 hc0 hn0 al z0
  go_wp2_with fail
  refine (small_drawn n₀ _ a len cap z _ _ hst).mono ?_
  rintro e w2 ⟨c, v2, L, s2, hcc, hL, rfl, o2, hd2, hg2⟩
  obtain ⟨a2, c2, rfl⟩ := o2.len
  have y2 := y1.grown hg2 (by omega)
  have x2 := x1.grown hg2 (by omega)
  have d2 : Below w.heap.size w w2 := d1.trans (grown_below hg2 (by omega) hlt)
  have hs2 := hg2.size
  clear y1 x1 hst d1 hg2
  have k3 : Below w2.heap.size w2 ((w2.alloc (.cells (cpuCells c) 28)).alloc (.cells #[.slice a2 L.length c2] 30)) := ((Below.refl _ _).alloc (Nat.le_refl _) _).alloc (by simp) _
  obtain ⟨p3, r3, _⟩ := two_call (w := w2) (cs := cpuCells c) (zs := #[.slice a2 L.length c2]) (t := 28) (u := 30) (Below.refl _ _)
  have y3 := y2.below k3
  have x3 := x2.below k3
  have o3 := o2.below k3
  have hd3 := hd2.below k3
  have d3 := bstep d2 k3
  have z3 : ((w2.alloc (.cells (cpuCells c) 28)).alloc (.cells #[.slice a2 L.length c2] 30)).heap.size = w2.heap.size + 1 + 1 := by simp
  clear y2 x2 o2 hd2 d2 k3
  go_wp2_with fail
  generalize (w2.alloc (.cells (cpuCells c) 28)).alloc (.cells #[.slice a2 L.length c2] 30) = w3 at p3 r3 y3 x3 o3 hd3 d3 z3 ⊢
  refine (once_drawn n₀ _ a len cap z s2 20 _ hd3).mono ?_
  rintro e w4 ⟨rfl, hd4, hg4⟩
  have p4 := p3.grown hg4 (by omega)
  have r4 := r3.grown hg4 (by omega)
  have y4 := y3.grown hg4 (by omega)
  have x4 := x3.grown hg4 (by omega)
  have o4 := o3.grown hg4 (by omega)
  have d4 : Below w.heap.size w w4 := d3.trans (grown_below hg4 (by omega) hd3.lt)
  have hs4 := hg4.size
  clear p3 r3 y3 x3 o3 d3 hd3 hg4
  cases hq : (belowV z len s2 20 == 0) with
  | false =>
    go_wp2_with fail
    obtain ⟨g0, g1, g2, g3, g4, g5, g6, g7, g8, g9, g10, f0⟩ := eleven p4
    have r0c : w4.cell? ⟨w2.heap.size + 1, 0, none⟩ = some (.slice a2 L.length c2) := r4.cell 0 _ rfl
    obtain ⟨h0, h1, h2, h3, h4, h5, h6, h7, h8, h9, h10, f1⟩ := eleven y4
    have x0c : w4.cell? ⟨w.heap.size + 1, 0, none⟩ = some (.slice none 0 0) := x4.cell 0 _ rfl
    have fx := fun k => x4.frozen k
    have n1 : ¬ w2.heap.size = w.heap.size := by omega
    have n2 : ¬ w2.heap.size = w.heap.size + 1 := by omega
    have n3 : ¬ w2.heap.size + 1 = w.heap.size := by omega
    have n4 : ¬ w2.heap.size + 1 = w.heap.size + 1 := by omega
    go_region
    all_goals
      go_wp2
      refine bodyPost_ret (v := .tuple #[cpuV c, ramV (.slice a2 L.length c2)]) (by simp [results, Tryz.results9, go_sem, h0, h1, h2, h3, h4, h5, h6, h7, h8, h9, h10, x0c]) rfl ?_
      refine drew_mach hcc hL o4 d4 (by omega) ?_
      repeat (any_goals (first | (with_reducible exact Span.refl _ _ _) | (with_reducible refine Span.drew ?_) | (with_reducible refine Span.inn ?_ _ ?_ ?_)))
      all_goals omega
  | true =>
    go_wp2_with fail
    have hS : w4.drew.cell? ⟨w2.heap.size, 0, none⟩ = some (.int .u8 (c.A : Int)) ∧ w4.drew.cell? ⟨w2.heap.size, 1, none⟩ = some (.int .u8 (c.X : Int)) ∧ w4.drew.cell? ⟨w2.heap.size, 2, none⟩ = some (.int .u8 (c.Y : Int)) ∧ w4.drew.cell? ⟨w2.heap.size, 3, none⟩ = some (.int .u8 (c.S : Int)) ∧ w4.drew.cell? ⟨w2.heap.size, 4, none⟩ = some (.int .u16 (c.PC : Int)) ∧ w4.drew.cell? ⟨w2.heap.size, 5, none⟩ = some (.bool c.N) ∧ w4.drew.cell? ⟨w2.heap.size, 6, none⟩ = some (.bool c.V) ∧ w4.drew.cell? ⟨w2.heap.size, 7, none⟩ = some (.bool c.D) ∧ w4.drew.cell? ⟨w2.heap.size, 8, none⟩ = some (.bool c.I) ∧ w4.drew.cell? ⟨w2.heap.size, 9, none⟩ = some (.bool c.Z) ∧ w4.drew.cell? ⟨w2.heap.size, 10, none⟩ = some (.bool c.C) ∧ w4.drew.cell? ⟨(w2.heap.size + 1), 0, none⟩ = some (.slice a2 L.length c2) := elevenOne p4.drew r4.drew
    have hd4' : Drawn n₀ (w.heap.size + 1 + 1) a len cap z (belowS len s2 20) w4.drew := hd4
    have y4' := y4.drew
    have x4' := x4.drew
    have d4' := d4.drew
    go_region_held3 (fun w' => w'.cell? ⟨w2.heap.size, 0, none⟩ = some (.int .u8 (c.A : Int)) ∧ w'.cell? ⟨w2.heap.size, 1, none⟩ = some (.int .u8 (c.X : Int)) ∧ w'.cell? ⟨w2.heap.size, 2, none⟩ = some (.int .u8 (c.Y : Int)) ∧ w'.cell? ⟨w2.heap.size, 3, none⟩ = some (.int .u8 (c.S : Int)) ∧ w'.cell? ⟨w2.heap.size, 4, none⟩ = some (.int .u16 (c.PC : Int)) ∧ w'.cell? ⟨w2.heap.size, 5, none⟩ = some (.bool c.N) ∧ w'.cell? ⟨w2.heap.size, 6, none⟩ = some (.bool c.V) ∧ w'.cell? ⟨w2.heap.size, 7, none⟩ = some (.bool c.D) ∧ w'.cell? ⟨w2.heap.size, 8, none⟩ = some (.bool c.I) ∧ w'.cell? ⟨w2.heap.size, 9, none⟩ = some (.bool c.Z) ∧ w'.cell? ⟨w2.heap.size, 10, none⟩ = some (.bool c.C) ∧ w'.cell? ⟨(w2.heap.size + 1), 0, none⟩ = some (.slice a2 L.length c2))
      (((try dsimp only); (first | (with_reducible exact hS) | (with_reducible exact hS5) | ((repeat (with_reducible refine cells12_set (B := w2.heap.size) (C := w2.heap.size + 1) (by omega) (by omega) ?_)); (with_reducible exact hS5)))))
      (first | (go_at_call 35; refine (any_drawn n₀ _ a len cap z _ _ hd4').mono ?_; rintro e w5 ⟨v5, M, s5, hM, rfl, o5, hd5, hg5⟩; (obtain ⟨a5, c5, rfl⟩ := o5.len); (have hs5 : w4.heap.size ≤ w5.heap.size := hg5.size); (have hS5 := elevenOne (p4.drew.grown hg5 (by omega)) (r4.drew.grown hg5 (by omega))); (have y5 := y4'.grown hg5 (by omega)); (have x5 := x4'.grown hg5 (by omega)); (obtain ⟨h0, h1, h2, h3, h4, h5, h6, h7, h8, h9, h10, f1⟩ := eleven y5); (have x0c := x5.cell 0 _ rfl); (have fx := fun k => x5.frozen k)))
    all_goals
      have d5 : Below w.heap.size w w5 := d4'.trans (grown_below hg5 (by omega) hd4'.lt)
      have HQ := Lib.hid (And.intro o5 d5)
      clear o5 d5 hS hS5 p4 r4 hd5 hd4 hd4' o4 y5 x5 y4 x4 y4' x4'
      go_wp2
      refine bodyPost_ret (v := .tuple #[cpuV c, ramV (.slice a5 M.length c5)]) (by simp [results, Tryz.results9, go_sem, h0, h1, h2, h3, h4, h5, h6, h7, h8, h9, h10, x0c]) rfl ?_
      refine drew_mach hcc hM HQ.out.1 HQ.out.2 (by show _ ≤ w4.heap.size; omega) ?_
      repeat (any_goals (first | (with_reducible exact Span.refl _ _ _) | (with_reducible refine Span.drew ?_) | (with_reducible refine Span.inn ?_ _ ?_ ?_)))
      all_goals omega

end Go.Proofs.YtblchdmemhhcbaaGreat
