/-
  The law of interrupts (FnServe), walked over any program whose functions keep their contracts.
-/
import Derived.Test.YtblchdmemhhcbaaGreatQSDrawStep
import Derived.Test.YtblchdmemhhcbaaGreatQSDrawCpu
import Derived.Deep.RegionHeld3
import Derived.Test.YtblchdmemhhcbaaGreatQSOpC
import Derived.Test.YtblchdmemhhcbaaGreatQSStepRel
import Derived.Test.YtblchdmemhhcbaaGreatQSStepL
import Derived.Test.YtblchdmemhhcbaaGreatQSStepBack
import Derived.Deep.QuietTactic
import Derived.BigQuiet
namespace Go.Proofs.YtblchdmemhhcbaaGreat
set_option linter.unusedVariables false
set_option linter.unusedSimpArgs false
open Go.RowKit

/-- A processor and a memory that are drawn. -/
def DrewMach (w : World) (e : Ending) (w' : World) : Prop :=
  ∃ (c : CpuN) (v : Value) (M : List Nat), c.ok ∧ M.length ≤ 8192 ∧ e = .returned (.tuple #[cpuV c, ramV v]) ∧ OwnB w' w.heap.size v M ∧ Below w.heap.size w w'

theorem drew_mach {w W W' : World} {c : CpuN} {a : Option Addr} {cap base : Nat} {L : List Nat} (hc : c.ok) (hL : L.length ≤ 8192) (ho : OwnB W base (.slice a L.length cap) L) (hd : Below w.heap.size w W) (hb : w.heap.size + 2 ≤ base) (hs : Span w.heap.size (w.heap.size + 2) W W') :
    DrewMach w (.returned (.tuple #[cpuV c, ramV (.slice a L.length cap)])) W' :=
  ⟨c, _, L, hc, hL, rfl, OwnB.base (OwnB.spanned ho hs (fun k ek => by have := ((World.ownsRow.lt ho.2) k ek).1; omega)) (by omega), hd.trans (hs.below (Nat.le_refl _) hd.size)⟩

set_option maxRecDepth 100000 in
set_option maxHeartbeats 4000000 in
theorem drawStep_any (n₀ : Nat) (a : Option Addr) (len cap : Nat) (z : List Int) (w : World) (hc : CodeRow n₀ w a len z) (hn : n₀ ≤ w.heap.size) :
    Calls Tryz.prog 9 #[.slice a len cap] w (DrewMach w) := by
  have d0 : Below w.heap.size w ((w.alloc (.cells zeroCpu 28)).alloc (.cells #[.slice none 0 0] 30)) := ((Below.refl _ _).alloc (Nat.le_refl _) _).alloc (by simp) _
  obtain ⟨y0, x0, _⟩ := two_call (w := w) (cs := zeroCpu) (zs := #[.slice none 0 0]) (t := 28) (u := 30) (Below.refl _ _)
  have z0 : ((w.alloc (.cells zeroCpu 28)).alloc (.cells #[.slice none 0 0] 30)).heap.size = w.heap.size + 1 + 1 := by simp
  have hc0 := hc.kept (d0.mono hn)
  have hn0 : n₀ ≤ ((w.alloc (.cells zeroCpu 28)).alloc (.cells #[.slice none 0 0] 30)).heap.size := Nat.le_trans hn d0.size
  have hst := hc0.startS (cap := cap) hn0
  rw [z0] at hst
  go_enter Tryz.func9, Tryz.ntmps9
  go_wp2_with fail
  refine (new_any n₀ a len cap z _ hc0).mono ?_
  rintro e w1 ⟨rfl, rfl⟩
  have al := (Below.refl ((w.alloc (.cells zeroCpu 28)).alloc (.cells #[.slice none 0 0] 30)).heap.size ((w.alloc (.cells zeroCpu 28)).alloc (.cells #[.slice none 0 0] 30))).alloc (Nat.le_refl _) (.cells #[.slice a len cap, .int .i64 0, .int .i64 (startH z len)] 95)
  have d1 := bstep d0 al
  have y1 := y0.below al
  have x1 := x0.below al
  rw [z0]
  generalize ((w.alloc (.cells zeroCpu 28)).alloc (.cells #[.slice none 0 0] 30)).alloc (.cells #[.slice a len cap, .int .i64 0, .int .i64 (startH z len)] 95) = w1 at hst d1 y1 x1 ⊢
  have hlt := hst.lt
  clear y0 x0 d0 hc0 hn0 al z0
  go_wp2_with fail
  refine (small_drawn n₀ _ a len cap z _ _ hst).mono ?_
  rintro e w2 ⟨c, v2, L, s2, hcc, hL, rfl, o2, hd2, hg2⟩
  obtain ⟨a2, c2, rfl⟩ := o2.len
  have y2 := y1.grown hg2 (by omega)
  have x2 := x1.grown hg2 (by omega)
  have d2 : Below w.heap.size w w2 := d1.trans (grown_below hg2 (by omega) hlt)
  have hs2 := hg2.size
  clear y1 x1 hst d1 hg2
  have k3 : Below w2.heap.size w2 ((w2.alloc (.cells (cpuCells c) 28)).alloc (.cells #[.slice a2 L.length c2] 30)) := ((Below.refl _ _).alloc (Nat.le_refl _) _).alloc (by simp) _
  obtain ⟨p3, r3, _⟩ := two_call (w := w2) (cs := cpuCells c) (zs := #[.slice a2 L.length c2]) (t := 28) (u := 30) (Below.refl _ _)
  have y3 := y2.below k3
  have x3 := x2.below k3
  have o3 := o2.below k3
  have hd3 := hd2.below k3
  have d3 := bstep d2 k3
  have z3 : ((w2.alloc (.cells (cpuCells c) 28)).alloc (.cells #[.slice a2 L.length c2] 30)).heap.size = w2.heap.size + 1 + 1 := by simp
  clear y2 x2 o2 hd2 d2 k3
  go_wp2_with fail
  generalize (w2.alloc (.cells (cpuCells c) 28)).alloc (.cells #[.slice a2 L.length c2] 30) = w3 at p3 r3 y3 x3 o3 hd3 d3 z3 ⊢
  refine (once_drawn n₀ _ a len cap z s2 20 _ hd3).mono ?_
  rintro e w4 ⟨rfl, hd4, hg4⟩
  have p4 := p3.grown hg4 (by omega)
  have r4 := r3.grown hg4 (by omega)
  have y4 := y3.grown hg4 (by omega)
  have x4 := x3.grown hg4 (by omega)
  have o4 := o3.grown hg4 (by omega)
  have d4 : Below w.heap.size w w4 := d3.trans (grown_below hg4 (by omega) hd3.lt)
  have hs4 := hg4.size
  clear p3 r3 y3 x3 o3 d3 hd3 hg4
  cases hq : (belowV z len s2 20 == 0) with
  | false =>
    go_wp2_with fail
    obtain ⟨g0, g1, g2, g3, g4, g5, g6, g7, g8, g9, g10, f0⟩ := eleven p4
    have r0c : w4.cell? ⟨w2.heap.size + 1, 0, none⟩ = some (.slice a2 L.length c2) := r4.cell 0 _ rfl
    obtain ⟨h0, h1, h2, h3, h4, h5, h6, h7, h8, h9, h10, f1⟩ := eleven y4
    have x0c : w4.cell? ⟨w.heap.size + 1, 0, none⟩ = some (.slice none 0 0) := x4.cell 0 _ rfl
    have fx := fun k => x4.frozen k
    have n1 : ¬ w2.heap.size = w.heap.size := by omega
    have n2 : ¬ w2.heap.size = w.heap.size + 1 := by omega
    have n3 : ¬ w2.heap.size + 1 = w.heap.size := by omega
    have n4 : ¬ w2.heap.size + 1 = w.heap.size + 1 := by omega
    go_region
    all_goals
      go_wp2
      refine bodyPost_ret (v := .tuple #[cpuV c, ramV (.slice a2 L.length c2)]) (by simp [results, Tryz.results9, go_sem, h0, h1, h2, h3, h4, h5, h6, h7, h8, h9, h10, x0c]) rfl ?_
      refine drew_mach hcc hL o4 d4 (by omega) ?_
      repeat (any_goals (first | (with_reducible exact Span.refl _ _ _) | (with_reducible refine Span.drew ?_) | (with_reducible refine Span.inn ?_ _ ?_ ?_)))
      all_goals omega
  | true =>
    go_wp2_with fail
    have hS : w4.drew.cell? ⟨w2.heap.size, 0, none⟩ = some (.int .u8 (c.A : Int)) ∧ w4.drew.cell? ⟨w2.heap.size, 1, none⟩ = some (.int .u8 (c.X : Int)) ∧ w4.drew.cell? ⟨w2.heap.size, 2, none⟩ = some (.int .u8 (c.Y : Int)) ∧ w4.drew.cell? ⟨w2.heap.size, 3, none⟩ = some (.int .u8 (c.S : Int)) ∧ w4.drew.cell? ⟨w2.heap.size, 4, none⟩ = some (.int .u16 (c.PC : Int)) ∧ w4.drew.cell? ⟨w2.heap.size, 5, none⟩ = some (.bool c.N) ∧ w4.drew.cell? ⟨w2.heap.size, 6, none⟩ = some (.bool c.V) ∧ w4.drew.cell? ⟨w2.heap.size, 7, none⟩ = some (.bool c.D) ∧ w4.drew.cell? ⟨w2.heap.size, 8, none⟩ = some (.bool c.I) ∧ w4.drew.cell? ⟨w2.heap.size, 9, none⟩ = some (.bool c.Z) ∧ w4.drew.cell? ⟨w2.heap.size, 10, none⟩ = some (.bool c.C) ∧ w4.drew.cell? ⟨(w2.heap.size + 1), 0, none⟩ = some (.slice a2 L.length c2) := elevenOne p4.drew r4.drew
    have hd4' : Drawn n₀ (w.heap.size + 1 + 1) a len cap z (belowS len s2 20) w4.drew := hd4
    have y4' := y4.drew
    have x4' := x4.drew
    have d4' := d4.drew
    go_region_held3 (fun w' => w'.cell? ⟨w2.heap.size, 0, none⟩ = some (.int .u8 (c.A : Int)) ∧ w'.cell? ⟨w2.heap.size, 1, none⟩ = some (.int .u8 (c.X : Int)) ∧ w'.cell? ⟨w2.heap.size, 2, none⟩ = some (.int .u8 (c.Y : Int)) ∧ w'.cell? ⟨w2.heap.size, 3, none⟩ = some (.int .u8 (c.S : Int)) ∧ w'.cell? ⟨w2.heap.size, 4, none⟩ = some (.int .u16 (c.PC : Int)) ∧ w'.cell? ⟨w2.heap.size, 5, none⟩ = some (.bool c.N) ∧ w'.cell? ⟨w2.heap.size, 6, none⟩ = some (.bool c.V) ∧ w'.cell? ⟨w2.heap.size, 7, none⟩ = some (.bool c.D) ∧ w'.cell? ⟨w2.heap.size, 8, none⟩ = some (.bool c.I) ∧ w'.cell? ⟨w2.heap.size, 9, none⟩ = some (.bool c.Z) ∧ w'.cell? ⟨w2.heap.size, 10, none⟩ = some (.bool c.C) ∧ w'.cell? ⟨(w2.heap.size + 1), 0, none⟩ = some (.slice a2 L.length c2))
      (((try dsimp only); (first | (with_reducible exact hS) | (with_reducible exact hS5) | ((repeat (with_reducible refine cells12_set (B := w2.heap.size) (C := w2.heap.size + 1) (by omega) (by omega) ?_)); (with_reducible exact hS5)))))
      (first | (go_at_call 35; refine (any_drawn n₀ _ a len cap z _ _ hd4').mono ?_; rintro e w5 ⟨v5, M, s5, hM, rfl, o5, hd5, hg5⟩; (obtain ⟨a5, c5, rfl⟩ := o5.len); (have hs5 : w4.heap.size ≤ w5.heap.size := hg5.size); (have hS5 := elevenOne (p4.drew.grown hg5 (by omega)) (r4.drew.grown hg5 (by omega))); (have y5 := y4'.grown hg5 (by omega)); (have x5 := x4'.grown hg5 (by omega)); (obtain ⟨h0, h1, h2, h3, h4, h5, h6, h7, h8, h9, h10, f1⟩ := eleven y5); (have x0c := x5.cell 0 _ rfl); (have fx := fun k => x5.frozen k)))
    all_goals
      have d5 : Below w.heap.size w w5 := d4'.trans (grown_below hg5 (by omega) hd4'.lt)
      have HQ := Lib.hid (And.intro o5 d5)
      clear o5 d5 hS hS5 p4 r4 hd5 hd4 hd4' o4 y5 x5 y4 x4 y4' x4'
      go_wp2
      refine bodyPost_ret (v := .tuple #[cpuV c, ramV (.slice a5 M.length c5)]) (by simp [results, Tryz.results9, go_sem, h0, h1, h2, h3, h4, h5, h6, h7, h8, h9, h10, x0c]) rfl ?_
      refine drew_mach hcc hM HQ.out.1 HQ.out.2 (by show _ ≤ w4.heap.size; omega) ?_
      repeat (any_goals (first | (with_reducible exact Span.refl _ _ _) | (with_reducible refine Span.drew ?_) | (with_reducible refine Span.inn ?_ _ ?_ ?_)))
      all_goals omega

/-- A processor, a memory and a choice that are drawn. -/
def DrewServe (w : World) (e : Ending) (w' : World) : Prop :=
  ∃ (c : CpuN) (v : Value) (M : List Nat) (nmi : Bool), c.ok ∧ M.length ≤ 8192 ∧ e = .returned (.tuple #[cpuV c, ramV v, .bool nmi]) ∧ OwnB w' w.heap.size v M ∧ Below w.heap.size w w'

theorem drew_serve {w W W' : World} {c : CpuN} {a : Option Addr} {cap base : Nat} {L : List Nat} {nmi : Bool} (hc : c.ok) (hL : L.length ≤ 8192) (ho : OwnB W base (.slice a L.length cap) L) (hd : Below w.heap.size w W) (hb : w.heap.size + 2 ≤ base) (hs : Span w.heap.size (w.heap.size + 2) W W') :
    DrewServe w (.returned (.tuple #[cpuV c, ramV (.slice a L.length cap), .bool nmi])) W' :=
  ⟨c, _, L, nmi, hc, hL, rfl, OwnB.base (OwnB.spanned ho hs (fun k ek => by have := ((World.ownsRow.lt ho.2) k ek).1; omega)) (by omega), hd.trans (hs.below (Nat.le_refl _) hd.size)⟩

set_option maxRecDepth 100000 in
set_option maxHeartbeats 4000000 in
theorem drawServe_any (n₀ : Nat) (a : Option Addr) (len cap : Nat) (z : List Int) (w : World) (hc : CodeRow n₀ w a len z) (hn : n₀ ≤ w.heap.size) :
    Calls Tryz.prog 15 #[.slice a len cap] w (DrewServe w) := by
  have d0 : Below w.heap.size w ((w.alloc (.cells zeroCpu 28)).alloc (.cells #[.slice none 0 0] 30)) := ((Below.refl _ _).alloc (Nat.le_refl _) _).alloc (by simp) _
  obtain ⟨y0, x0, _⟩ := two_call (w := w) (cs := zeroCpu) (zs := #[.slice none 0 0]) (t := 28) (u := 30) (Below.refl _ _)
  have z0 : ((w.alloc (.cells zeroCpu 28)).alloc (.cells #[.slice none 0 0] 30)).heap.size = w.heap.size + 1 + 1 := by simp
  have hc0 := hc.kept (d0.mono hn)
  have hn0 : n₀ ≤ ((w.alloc (.cells zeroCpu 28)).alloc (.cells #[.slice none 0 0] 30)).heap.size := Nat.le_trans hn d0.size
  have hst := hc0.startS (cap := cap) hn0
  rw [z0] at hst
  go_enter Tryz.func15, Tryz.ntmps15
  go_wp2_with fail
  refine (new_any n₀ a len cap z _ hc0).mono ?_
  rintro e w1 ⟨rfl, rfl⟩
  have al := (Below.refl ((w.alloc (.cells zeroCpu 28)).alloc (.cells #[.slice none 0 0] 30)).heap.size ((w.alloc (.cells zeroCpu 28)).alloc (.cells #[.slice none 0 0] 30))).alloc (Nat.le_refl _) (.cells #[.slice a len cap, .int .i64 0, .int .i64 (startH z len)] 95)
  have d1 := bstep d0 al
  have y1 := y0.below al
  have x1 := x0.below al
  rw [z0]
  generalize ((w.alloc (.cells zeroCpu 28)).alloc (.cells #[.slice none 0 0] 30)).alloc (.cells #[.slice a len cap, .int .i64 0, .int .i64 (startH z len)] 95) = w1 at hst d1 y1 x1 ⊢
  have hlt := hst.lt
  clear y0 x0 d0 hc0 hn0 al z0
  go_wp2_with fail
  refine (small_drawn n₀ _ a len cap z _ _ hst).mono ?_
  rintro e w2 ⟨c, v2, L, s2, hcc, hL, rfl, o2, hd2, hg2⟩
  obtain ⟨a2, c2, rfl⟩ := o2.len
  have y2 := y1.grown hg2 (by omega)
  have x2 := x1.grown hg2 (by omega)
  have d2 : Below w.heap.size w w2 := d1.trans (grown_below hg2 (by omega) hlt)
  have hs2 := hg2.size
  clear y1 x1 hst d1 hg2
  have k3 : Below w2.heap.size w2 ((w2.alloc (.cells (cpuCells c) 28)).alloc (.cells #[.slice a2 L.length c2] 30)) := ((Below.refl _ _).alloc (Nat.le_refl _) _).alloc (by simp) _
  obtain ⟨p3, r3, _⟩ := two_call (w := w2) (cs := cpuCells c) (zs := #[.slice a2 L.length c2]) (t := 28) (u := 30) (Below.refl _ _)
  have y3 := y2.below k3
  have x3 := x2.below k3
  have o3 := o2.below k3
  have hd3 := hd2.below k3
  have d3 := bstep d2 k3
  have z3 : ((w2.alloc (.cells (cpuCells c) 28)).alloc (.cells #[.slice a2 L.length c2] 30)).heap.size = w2.heap.size + 1 + 1 := by simp
  clear y2 x2 o2 hd2 d2 k3
  go_wp2_with fail
  generalize (w2.alloc (.cells (cpuCells c) 28)).alloc (.cells #[.slice a2 L.length c2] 30) = w3 at p3 r3 y3 x3 o3 hd3 d3 z3 ⊢
  refine (once_drawn n₀ _ a len cap z s2 20 _ hd3).mono ?_
  rintro e w4 ⟨rfl, hd4, hg4⟩
  have p4 := p3.grown hg4 (by omega)
  have r4 := r3.grown hg4 (by omega)
  have y4 := y3.grown hg4 (by omega)
  have x4 := x3.grown hg4 (by omega)
  have o4 := o3.grown hg4 (by omega)
  have d4 : Below w.heap.size w w4 := d3.trans (grown_below hg4 (by omega) hd3.lt)
  have hs4 := hg4.size
  clear p3 r3 y3 x3 o3 d3 hd3 hg4
  cases hq : (belowV z len s2 20 == 0) with
  | false =>
    go_wp2_with fail
    have hS : w4.drew.cell? ⟨w2.heap.size, 0, none⟩ = some (.int .u8 (c.A : Int)) ∧ w4.drew.cell? ⟨w2.heap.size, 1, none⟩ = some (.int .u8 (c.X : Int)) ∧ w4.drew.cell? ⟨w2.heap.size, 2, none⟩ = some (.int .u8 (c.Y : Int)) ∧ w4.drew.cell? ⟨w2.heap.size, 3, none⟩ = some (.int .u8 (c.S : Int)) ∧ w4.drew.cell? ⟨w2.heap.size, 4, none⟩ = some (.int .u16 (c.PC : Int)) ∧ w4.drew.cell? ⟨w2.heap.size, 5, none⟩ = some (.bool c.N) ∧ w4.drew.cell? ⟨w2.heap.size, 6, none⟩ = some (.bool c.V) ∧ w4.drew.cell? ⟨w2.heap.size, 7, none⟩ = some (.bool c.D) ∧ w4.drew.cell? ⟨w2.heap.size, 8, none⟩ = some (.bool c.I) ∧ w4.drew.cell? ⟨w2.heap.size, 9, none⟩ = some (.bool c.Z) ∧ w4.drew.cell? ⟨w2.heap.size, 10, none⟩ = some (.bool c.C) ∧ w4.drew.cell? ⟨(w2.heap.size + 1), 0, none⟩ = some (.slice a2 L.length c2) := elevenOne p4.drew r4.drew
    have hdQ : Drawn n₀ (w.heap.size + 1 + 1) a len cap z (belowS len s2 20) w4.drew := hd4
    have yQ := y4.drew
    have xQ := x4.drew
    have dQ := d4.drew
    have oQ : OwnB w4.drew w1.heap.size (.slice a2 L.length c2) L := o4
    go_wp2_with fail
    go_region_held3 (fun w' => w'.cell? ⟨w2.heap.size, 0, none⟩ = some (.int .u8 (c.A : Int)) ∧ w'.cell? ⟨w2.heap.size, 1, none⟩ = some (.int .u8 (c.X : Int)) ∧ w'.cell? ⟨w2.heap.size, 2, none⟩ = some (.int .u8 (c.Y : Int)) ∧ w'.cell? ⟨w2.heap.size, 3, none⟩ = some (.int .u8 (c.S : Int)) ∧ w'.cell? ⟨w2.heap.size, 4, none⟩ = some (.int .u16 (c.PC : Int)) ∧ w'.cell? ⟨w2.heap.size, 5, none⟩ = some (.bool c.N) ∧ w'.cell? ⟨w2.heap.size, 6, none⟩ = some (.bool c.V) ∧ w'.cell? ⟨w2.heap.size, 7, none⟩ = some (.bool c.D) ∧ w'.cell? ⟨w2.heap.size, 8, none⟩ = some (.bool c.I) ∧ w'.cell? ⟨w2.heap.size, 9, none⟩ = some (.bool c.Z) ∧ w'.cell? ⟨w2.heap.size, 10, none⟩ = some (.bool c.C) ∧ w'.cell? ⟨(w2.heap.size + 1), 0, none⟩ = some (.slice a2 L.length c2))
      (((try dsimp only); (first | (with_reducible exact hS) | (with_reducible exact hS6) | ((repeat (with_reducible refine cells12_set (B := w2.heap.size) (C := w2.heap.size + 1) (by omega) (by omega) ?_)); (with_reducible exact hS6)))))
      (first | (go_at_call 34; refine (once_drawn n₀ _ a len cap z _ 2 _ hdQ).mono ?_; rintro e w6 ⟨rfl, hd6, hg6⟩; (have hs6 : w4.heap.size ≤ w6.heap.size := hg6.size); (have hS6 := elevenOne (p4.drew.grown hg6 (by omega)) (r4.drew.grown hg6 (by omega))); (have y6 := yQ.grown hg6 (by omega)); (have x6 := xQ.grown hg6 (by omega)); (obtain ⟨h0, h1, h2, h3, h4, h5, h6, h7, h8, h9, h10, f1⟩ := eleven y6); (have x0c := x6.cell 0 _ rfl); (have fx := fun k => x6.frozen k)))
    all_goals
      have d6 : Below w.heap.size w w6 := dQ.trans (grown_below hg6 (by omega) hdQ.lt)
      have o6 := oQ.grown hg6 (by omega)
      have HQ := Lib.hid (And.intro o6 d6)
      clear o6 d6 hS hS6 hdQ yQ xQ dQ oQ y6 x6
      go_wp2
      refine bodyPost_ret (v := .tuple #[cpuV c, ramV (.slice a2 L.length c2), .bool (belowV z len (belowS len s2 20) 2 == 0)]) (by simp [results, Tryz.results15, go_sem, h0, h1, h2, h3, h4, h5, h6, h7, h8, h9, h10, x0c]) rfl ?_
      refine drew_serve hcc hL HQ.out.1 HQ.out.2 (by omega) ?_
      repeat (any_goals (first | (with_reducible exact Span.refl _ _ _) | (with_reducible refine Span.drew ?_) | (with_reducible refine Span.inn ?_ _ ?_ ?_)))
      all_goals omega
  | true =>
    go_wp2_with fail
    refine (any_drawn n₀ _ a len cap z _ _ hd4).mono ?_
    rintro e w5 ⟨v5, M, s5, hM, rfl, o5, hd5, hg5⟩
    obtain ⟨a5, c5, rfl⟩ := o5.len
    have hs5 : w4.heap.size ≤ w5.heap.size := hg5.size
    have p5 := p4.grown hg5 (by omega)
    have r5 := r4.grown hg5 (by omega)
    have y5 := y4.grown hg5 (by omega)
    have x5 := x4.grown hg5 (by omega)
    have d5 : Below w.heap.size w w5 := d4.trans (grown_below hg5 (by omega) hd4.lt)
    have rc := r5.cell 0 _ rfl
    have rf := r5.frozen 0
    have sp : Span (w2.heap.size + 1) (w2.heap.size + 2) w5 (w5.setCell ⟨w2.heap.size + 1, 0, none⟩ (.slice a5 M.length c5)) := (Span.set _ _ _ _).wide (Nat.le_refl _) (by omega)
    have p7 := p5.span sp (by omega)
    have r7 : BoxN (w5.setCell ⟨w2.heap.size + 1, 0, none⟩ (.slice a5 M.length c5)) (w2.heap.size + 1) 30 #[.slice a5 M.length c5] := r5.set 0 (.slice a5 M.length c5)
    have y7 := y5.span sp (by omega)
    have x7 := x5.span sp (by omega)
    have d7 : Below w.heap.size w (w5.setCell ⟨w2.heap.size + 1, 0, none⟩ (.slice a5 M.length c5)) := d5.trans (sp.below (by omega) (by omega))
    have o7 := OwnB.spanned o5 sp (fun k ek => by have := ((World.ownsRow.lt o5.2) k ek).1; omega)
    have hd7 := hd5.set (n := w2.heap.size + 1) (k := 0) (v := .slice a5 M.length c5) (by omega)
    have z7 : (w5.setCell ⟨w2.heap.size + 1, 0, none⟩ (.slice a5 M.length c5)).heap.size = w5.heap.size := by simp
    clear p4 r4 y4 x4 o4 d4 hd4 p5 r5 y5 x5 d5 o5 hd5 hg5 sp
    go_wp2_with fail
    generalize w5.setCell ⟨w2.heap.size + 1, 0, none⟩ (.slice a5 M.length c5) = w7 at p7 r7 y7 x7 d7 o7 hd7 z7 ⊢
    clear rc rf
    have hS : w7.drew.cell? ⟨w2.heap.size, 0, none⟩ = some (.int .u8 (c.A : Int)) ∧ w7.drew.cell? ⟨w2.heap.size, 1, none⟩ = some (.int .u8 (c.X : Int)) ∧ w7.drew.cell? ⟨w2.heap.size, 2, none⟩ = some (.int .u8 (c.Y : Int)) ∧ w7.drew.cell? ⟨w2.heap.size, 3, none⟩ = some (.int .u8 (c.S : Int)) ∧ w7.drew.cell? ⟨w2.heap.size, 4, none⟩ = some (.int .u16 (c.PC : Int)) ∧ w7.drew.cell? ⟨w2.heap.size, 5, none⟩ = some (.bool c.N) ∧ w7.drew.cell? ⟨w2.heap.size, 6, none⟩ = some (.bool c.V) ∧ w7.drew.cell? ⟨w2.heap.size, 7, none⟩ = some (.bool c.D) ∧ w7.drew.cell? ⟨w2.heap.size, 8, none⟩ = some (.bool c.I) ∧ w7.drew.cell? ⟨w2.heap.size, 9, none⟩ = some (.bool c.Z) ∧ w7.drew.cell? ⟨w2.heap.size, 10, none⟩ = some (.bool c.C) ∧ w7.drew.cell? ⟨(w2.heap.size + 1), 0, none⟩ = some (.slice a5 M.length c5) := elevenOne p7.drew r7.drew
    have hdQ : Drawn n₀ (w.heap.size + 1 + 1) a len cap z s5 w7.drew := hd7
    have yQ := y7.drew
    have xQ := x7.drew
    have dQ := d7.drew
    have oQ : OwnB w7.drew w4.heap.size (.slice a5 M.length c5) M := o7
    go_wp2_with fail
    go_region_held3 (fun w' => w'.cell? ⟨w2.heap.size, 0, none⟩ = some (.int .u8 (c.A : Int)) ∧ w'.cell? ⟨w2.heap.size, 1, none⟩ = some (.int .u8 (c.X : Int)) ∧ w'.cell? ⟨w2.heap.size, 2, none⟩ = some (.int .u8 (c.Y : Int)) ∧ w'.cell? ⟨w2.heap.size, 3, none⟩ = some (.int .u8 (c.S : Int)) ∧ w'.cell? ⟨w2.heap.size, 4, none⟩ = some (.int .u16 (c.PC : Int)) ∧ w'.cell? ⟨w2.heap.size, 5, none⟩ = some (.bool c.N) ∧ w'.cell? ⟨w2.heap.size, 6, none⟩ = some (.bool c.V) ∧ w'.cell? ⟨w2.heap.size, 7, none⟩ = some (.bool c.D) ∧ w'.cell? ⟨w2.heap.size, 8, none⟩ = some (.bool c.I) ∧ w'.cell? ⟨w2.heap.size, 9, none⟩ = some (.bool c.Z) ∧ w'.cell? ⟨w2.heap.size, 10, none⟩ = some (.bool c.C) ∧ w'.cell? ⟨(w2.heap.size + 1), 0, none⟩ = some (.slice a5 M.length c5))
      (((try dsimp only); (first | (with_reducible exact hS) | (with_reducible exact hS6) | ((repeat (with_reducible refine cells12_set (B := w2.heap.size) (C := w2.heap.size + 1) (by omega) (by omega) ?_)); (with_reducible exact hS6)))))
      (first | (go_at_call 34; refine (once_drawn n₀ _ a len cap z _ 2 _ hdQ).mono ?_; rintro e w6 ⟨rfl, hd6, hg6⟩; (have hs6 : w7.heap.size ≤ w6.heap.size := hg6.size); (have hS6 := elevenOne (p7.drew.grown hg6 (by omega)) (r7.drew.grown hg6 (by omega))); (have y6 := yQ.grown hg6 (by omega)); (have x6 := xQ.grown hg6 (by omega)); (obtain ⟨h0, h1, h2, h3, h4, h5, h6, h7, h8, h9, h10, f1⟩ := eleven y6); (have x0c := x6.cell 0 _ rfl); (have fx := fun k => x6.frozen k)))
    all_goals
      have d6 : Below w.heap.size w w6 := dQ.trans (grown_below hg6 (by omega) hdQ.lt)
      have o6 := oQ.grown hg6 (by omega)
      have HQ := Lib.hid (And.intro o6 d6)
      clear o6 d6 hS hS6 hdQ yQ xQ dQ oQ y6 x6
      go_wp2
      refine bodyPost_ret (v := .tuple #[cpuV c, ramV (.slice a5 M.length c5), .bool (belowV z len s5 2 == 0)]) (by simp [results, Tryz.results15, go_sem, h0, h1, h2, h3, h4, h5, h6, h7, h8, h9, h10, x0c]) rfl ?_
      refine drew_serve hcc hM HQ.out.1 HQ.out.2 (by omega) ?_
      repeat (any_goals (first | (with_reducible exact Span.refl _ _ _) | (with_reducible refine Span.drew ?_) | (with_reducible refine Span.inn ?_ _ ?_ ?_)))
      all_goals omega

end Go.Proofs.YtblchdmemhhcbaaGreat

namespace Go.Proofs.YtblchdmemhhcbaaGreat
set_option linter.unusedVariables false
set_option linter.unusedSimpArgs false
open Go.RowKit

theorem OwnB.cap {w : World} {base : Nat} {a : Option Addr} {n c : Nat} {L : List Nat} (h : OwnB w base (.slice a n c) L) : n ≤ c := by
  rcases h.2.2 with ⟨hv, _⟩ | ⟨g, cp, cur, hv, _, _, h1, _⟩
  · simp only [Value.slice.injEq] at hv; omega
  · simp only [Value.slice.injEq] at hv; omega

theorem RowB.take {w : World} {a : Option Addr} {L : List Nat} (h : RowB w a L) (k : Nat) (hk : k ≤ L.length) : RowB w a (L.take k) := by
  have hl : (L.take k).length = k := by simp; omega
  have hg : ∀ i, i < k → (L.take k).getD i 0 = L.getD i 0 := fun i hi => by simp [List.getD, List.getElem?_take, hi]
  refine ⟨fun i hi => ?_, fun h0 => ?_⟩
  · rw [hl] at hi; rw [hg i hi]; exact h.1 i (by omega)
  · rw [hl] at h0
    obtain ⟨g, o, rfl, hgl, hc⟩ := h.2 (by omega)
    refine ⟨g, o, rfl, hgl, fun i hi => ?_⟩
    rw [hl] at hi; rw [hg i hi]; exact hc i (by omega)

theorem RowB.grown {w w' : World} {a : Option Addr} {L : List Nat} {base B : Nat} {c : Nat} (h : OwnB w base (.slice a L.length c) L) (hg : w.grownBy w' (some B)) (hB : B < base) : RowB w' a L := (h.grown hg hB).row.2

end Go.Proofs.YtblchdmemhhcbaaGreat

namespace Go.Proofs.YtblchdmemhhcbaaGreat
set_option linter.unusedVariables false
set_option linter.unusedSimpArgs false
open Go.RowKit

theorem bigCode_any (a : Option Addr) (len cap : Nat) (w : World) :
    Calls Tryz.prog 8 #[.slice a len cap] w fun e w' => e = .returned (.bool (decide ((1048576 : Int) < len))) ∧ w = w' := by
  go_enter Tryz.func8, Tryz.ntmps8
  go_wp2
  go_ret
  exact ⟨rfl, rfl⟩

end Go.Proofs.YtblchdmemhhcbaaGreat

namespace Go.Proofs.YtblchdmemhhcbaaGreat
set_option linter.unusedVariables false
set_option linter.unusedSimpArgs false
open Go.RowKit

theorem cpu_neqV (c : CpuN) (w : World) : (binOp .neq 28 (cpuV c) (cpuV c)).run Tryz.prog w = .ok (.bool false) w := by
  simp [go_sem]

theorem cpu_eqV (c : CpuN) (w : World) : (binOp .eql 28 (cpuV c) (cpuV c)).run Tryz.prog w = .ok (.bool true) w := by
  simp [go_sem]

theorem stack_and' : ∀ s : Fin 256, ∀ k : Fin 3, bits .and .i64 ((s.1 : Int) - (k.1 : Int)) 255 = (((s.1 + 256 - k.1) % 256 : Nat) : Int) := by decide +kernel

theorem stack_and {s k : Nat} (hs : s < 256) (hk : k < 3) : bits .and .i64 ((s : Int) - (k : Int)) 255 = (((s + 256 - k) % 256 : Nat) : Int) := stack_and' ⟨s, hs⟩ ⟨k, hk⟩

set_option maxRecDepth 100000 in
set_option maxHeartbeats 4000000 in
theorem walkFnServe (HI : ImplStep) (HV : ImplServe) (HP : ImplPoke) (a : Option Addr) (len cap : Nat) (z : List Int) (w : World) (hcode : CodeRow w.heap.size w a len z) (hl : len ≤ 1048576) :
    Calls Tryz.prog 4 #[.slice a len cap] w fun e w' => e = .returned (.bool true) ∧ Below w.heap.size w w' := by
  have hbig : decide ((1048576 : Int) < len) = false := by simp; omega
  go_enter Tryz.func4, Tryz.ntmps4
  go_wp2_with fail
  refine (bigCode_any _ _ _ _).mono ?_
  rintro e w' ⟨rfl, rfl⟩
  rw [hbig]
  clear hbig
  go_wp2_with fail
  refine (drawServe_any w.heap.size a len cap z w hcode (Nat.le_refl _)).mono ?_
  rintro e w1 ⟨c, v1, L, nmi, hc, hL, rfl, o1, d1⟩
  have s1 := SegB.of o1
  obtain ⟨a1, c1, rfl, h1c⟩ := s1.len
  have k2 : Below w1.heap.size w1 ((w1.alloc (.cells (cpuCells c) 28)).alloc (.cells #[.slice a1 L.length c1] 30)) := ((Below.refl _ _).alloc (Nat.le_refl _) _).alloc (by simp) _
  obtain ⟨p2, r2, _⟩ := two_call (w := w1) (cs := cpuCells c) (zs := #[.slice a1 L.length c1]) (t := 28) (u := 30) (Below.refl _ _)
  have s2 := s1.below k2
  have hA := allB_of s1
  have b2 := bstep d1 k2
  have z2 : ((w1.alloc (.cells (cpuCells c) 28)).alloc (.cells #[.slice a1 L.length c1] 30)).heap.size = w1.heap.size + 1 + 1 := by simp
  obtain ⟨r, hr⟩ : ∃ r, servedN c L nmi = r := ⟨_, rfl⟩
  have HC := fun W h => HV c a1 c1 L nmi W hc (by omega) h1c h
  have HS := fun W h => specServe_any c hc nmi a1 c1 L W h
  rw [hr] at HC HS
  have HR := Lib.hid hr
  have zw := d1.size
  clear o1 d1 s1 k2 hcode hr
  obtain ⟨g0, g1, g2, g3, g4, g5, g6, g7, g8, g9, g10, gf⟩ := eleven p2
  have rc := r2.cell 0 (.slice a1 L.length c1) rfl
  go_wp2_with fail
  clear g0 g1 g2 g3 g4 g5 g6 g7 g8 g9 g10 gf rc
  generalize (w1.alloc (.cells (cpuCells c) 28)).alloc (.cells #[.slice a1 L.length c1] 30) = w2 at p2 r2 s2 b2 z2 ⊢
  refine (HC _ s2.row).mono ?_
  rintro e w3 hst
  obtain ⟨a3, c3, a3', c3', lo, hi, lo2, hi2, rfl, sm, sc, ar, d3⟩ := hst.three
  clear hst
  have hML3 : r.2.mem.length = r.2.mem.length ∧ r.2.mem.length ≤ c3 := by
    obtain ⟨_, _, e3, h3⟩ := sm.len
    simp only [Value.slice.injEq] at e3
    obtain ⟨_, _, rfl⟩ := e3
    exact ⟨rfl, h3⟩
  have k4 : Below w3.heap.size w3 ((w3.alloc (.cells (cpuCells r.1) 28)).alloc (.cells #[.slice a3 r.2.mem.length c3] 30)) := ((Below.refl _ _).alloc (Nat.le_refl _) _).alloc (by simp) _
  obtain ⟨p4, r4, _⟩ := two_call (w := w3) (cs := cpuCells r.1) (zs := #[.slice a3 r.2.mem.length c3]) (t := 28) (u := 30) (Below.refl _ _)
  have z4 : ((w3.alloc (.cells (cpuCells r.1) 28)).alloc (.cells #[.slice a3 r.2.mem.length c3] 30)).heap.size = w3.heap.size + 1 + 1 := by simp
  have p24 := (p2.below d3).below k4
  have r24 := (r2.below d3).below k4
  have s4 := (s2.below d3).below k4
  have m4 := sm.below k4
  have b4 := bstep (bstep b2 d3) k4
  have zz := d3.size
  clear p2 r2 s2 sm sc b2 d3 k4
  obtain ⟨g0, g1, g2, g3, g4, g5, g6, g7, g8, g9, g10, gf⟩ := eleven p24
  have rc := r24.cell 0 (.slice a1 L.length c1) rfl
  go_wp2_with fail
  clear g0 g1 g2 g3 g4 g5 g6 g7 g8 g9 g10 gf rc
  generalize (w3.alloc (.cells (cpuCells r.1) 28)).alloc (.cells #[.slice a3 r.2.mem.length c3] 30) = w4 at p4 r4 p24 r24 s4 m4 b4 z4 ⊢
  refine (HS _ s4.row).mono ?_
  rintro e w5 hst
  obtain ⟨a5, c5, a5', c5', lo', hi', lo2', hi2', rfl, _, _, _, d5⟩ := hst.three
  clear hst
  have k6 : Below w5.heap.size w5 ((w5.alloc (.cells (cpuCells r.1) 28)).alloc (.cells #[.slice a5 r.2.mem.length c5] 30)) := ((Below.refl _ _).alloc (Nat.le_refl _) _).alloc (by simp) _
  obtain ⟨p6, _, _⟩ := two_call (w := w5) (cs := cpuCells r.1) (zs := #[.slice a5 r.2.mem.length c5]) (t := 28) (u := 30) (Below.refl _ _)
  have z6 : ((w5.alloc (.cells (cpuCells r.1) 28)).alloc (.cells #[.slice a5 r.2.mem.length c5] 30)).heap.size = w5.heap.size + 1 + 1 := by simp
  have p26 := (p24.below d5).below k6
  have r26 := (r24.below d5).below k6
  have p46 := (p4.below d5).below k6
  have r46 := (r4.below d5).below k6
  have m6 := (m4.below d5).below k6
  have b6 := bstep (bstep b4 d5) k6
  have zz5 := d5.size
  clear p24 r24 p4 r4 s4 m4 b4 d5 k6
  obtain ⟨h0, h1, h2, h3, h4, h5, h6, h7, h8, h9, h10, hf⟩ := eleven p46
  obtain ⟨k0, k1, k2, k3, k4, k5, k6, k7, k8, k9, k10, kf⟩ := eleven p6
  have rc := r26.cell 0 (.slice a1 L.length c1) rfl
  have hneq := cpu_neqV r.1
  go_wp2_with fail
  generalize (w5.alloc (.cells (cpuCells r.1) 28)).alloc (.cells #[.slice a5 r.2.mem.length c5] 30) = w6 at p26 r26 p46 r46 m6 b6 z6 ⊢
  clear h0 h1 h2 h3 h4 h5 h6 h7 h8 h9 h10 hf k0 k1 k2 k3 k4 k5 k6 k7 k8 k9 k10 kf rc hneq p6
  have HO := fun w => specOk_any a1 L.length c1 w
  cases hram : ramN L.length with
  | false =>
    rw [hram] at HO
    have er : r = (cpu0, ⟨[], []⟩) := by rw [← HR.out]; unfold servedN; rw [hram]; rfl
    subst er
    refine (HO _).mono ?_
    rintro e w7 ⟨rfl, d7⟩
    have b7 := bstep b6 d7
    go_wp2
    go_ret
    exact ⟨rfl, b7⟩
  | true =>
    rw [hram] at HO
    refine (HO _).mono ?_
    rintro e w7 ⟨rfl, d7⟩
    have p7 := p26.below d7
    have q7 := p46.below d7
    have s7 := r46.below d7
    have m7 := m6.below d7
    have b7 := bstep b6 d7
    have hs7 := d7.size
    clear p26 r26 p46 r46 m6 b6 d7
    obtain ⟨d, M, lg⟩ := r
    dsimp only at q7 s7 m7 hML3 ⊢
    have HM := Lib.hid hML3
    obtain ⟨hlg, hML, hok, hback⟩ := served_back c hc L hA hram nmi d M lg HR.out
    have hn := ramN_pos hram
    rw [← hML] at hn hback
    have hMr : ramN M.length = true := by rw [hML]; exact hram
    clear HC HS HR HO hML
    have hPC := hok.2.2.2.2
    have hcS := hc.2.2.2.1
    obtain ⟨x, hx⟩ : ∃ x, d.PC % M.length = x := ⟨_, rfl⟩
    have htm : (d.PC : Int).tmod (M.length : Int) = (x : Int) := by rw [idx_rem _ _ (by omega), hx]
    have hz1 : ¬ M.length = 0 := by omega
    have hz2 : ¬ (M.length : Int) = 0 := by omega
    have hz3 : ((M.length : Int) == 0) = false := beq_eq_false_iff_ne.2 hz2
    have g4 := q7.cell 4 (.int .u16 (d.PC : Int)) rfl
    have g7 := s7.cell 0 (.slice a3 M.length c3) rfl
    have g3 := p7.cell 3 (.int .u8 (c.S : Int)) rfl
    have HX := Lib.hid hx
    have HB := Lib.hid hback
    have HG := Lib.hid hlg
    clear hx hback hlg
    go_wp2_with fail
    clear htm g4
    have HJ0 : Hid (∀ j, j < 0 → x ≠ (256 + (c.S + 256 - j) % 256) % M.length) := Lib.hid (fun j hj => absurd hj (Nat.not_lt_zero j))
    go_loopw [13] (fun i wr => ∃ (k : Nat), k ≤ 3 ∧ i = .int .i64 k ∧ wr = w7 ∧ Hid (∀ j, j < k → x ≠ (256 + (c.S + 256 - j) % 256) % M.length)) (fun i _ => 3 - (intOf i).toNat)
    case atStart => exact ⟨0, by omega, rfl, rfl, HJ0⟩
    case round =>
      clear HJ0
      obtain ⟨k, hk, rfl, rfl, HJ⟩ := hrel
      by_cases hp : k < 3
      · have hand := stack_and hcS hp
        obtain ⟨y, hy⟩ : ∃ y, (c.S + 256 - k) % 256 = y := ⟨_, rfl⟩
        rw [hy] at hand
        have hyl : y < 256 := by omega
        obtain ⟨v, hv⟩ : ∃ v, (256 + y) % M.length = v := ⟨_, rfl⟩
        have htm2 : (256 + (y : Int)).tmod (M.length : Int) = (v : Int) := by rw [show (256 + (y : Int)) = ((256 + y : Nat) : Int) by omega, idx_rem _ _ (by omega), hv]
        have hkk : (0 : Int) ≤ (k : Int) ∧ (k : Int) < 3 := by omega
        have HY := Lib.hid hy
        have HV2 := Lib.hid hv
        clear hy hv
        by_cases hxv : x = v
        · have ht : ((x : Int) == (v : Int)) = true := beq_iff_eq.2 (by omega)
          clear hxv HJ
          go_wp2
          go_ret
          exact ⟨rfl, b7⟩
        · have ht : ((x : Int) == (v : Int)) = false := beq_eq_false_iff_ne.2 (by omega)
          have HJ2 : Hid (∀ j, j < k + 1 → x ≠ (256 + (c.S + 256 - j) % 256) % M.length) := Lib.hid (fun j hj => by
            by_cases hjk : j = k
            · subst hjk; rw [HY.out, HV2.out]; exact hxv
            · exact HJ.out j (by omega))
          clear hxv HJ
          go_wp2
          go_roundw
          case rel => exact ⟨k + 1, by omega, by go_num, (by first | rfl | trivial), HJ2⟩
          case measure => simp [intOf]; omega
      · obtain rfl : k = 3 := by omega
        have hfin := HB.out (by have := HJ.out 0 (by omega); rw [HX.out]; simpa using this) (by have := HJ.out 1 (by omega); rw [HX.out]; simpa using this) (by have := HJ.out 2 (by omega); rw [HX.out]; simpa using this)
        have HF := Lib.hid hfin
        have hk3 : ¬ ((3 : Nat) : Int) < 3 := by omega
        have g4 := q7.cell 4 (.int .u16 (d.PC : Int)) rfl
        clear hfin HJ
        have HPK := HP a3 c3 d.PC 64 M wr hPC (by decide) (by omega) (HM.out.2) m7.row
        go_wp2_with fail
        refine HPK.mono ?_
        rintro e w8 ⟨v8, rfl, o8, d8⟩
        have t8 := SegB.of o8
        obtain ⟨a8, c8, rfl, h8c⟩ := t8.len
        have p8 := p7.below d8
        have q8 := q7.below d8
        have u8 := s7.below d8
        have b8 := bstep b7 d8
        have e8 := d8.size
        obtain ⟨M2, hM2⟩ : ∃ M2, pokeL M d.PC 64 = M2 := ⟨_, rfl⟩
        rw [hM2] at HF t8 h8c ⊢
        have hM2l : M2.length = M.length := by rw [← hM2]; unfold pokeL; rw [if_pos hMr, List.length_set]
        have HM2l := Lib.hid hM2l
        clear HPK d8 o8 hM2 hM2l
        have g7 := u8.cell 0 (.slice a3 M.length c3) rfl
        have fz := fun i => u8.frozen i
        have sp : Span (w3.heap.size + 1) (w3.heap.size + 1 + 1) w8 (w8.setCell ⟨w3.heap.size + 1, 0, none⟩ (.slice a8 M2.length c8)) := Span.set _ _ _ _
        have u9 := BoxN.set u8 0 (.slice a8 M2.length c8)
        have p9 := p8.span sp (by omega)
        have q9 := q8.span sp (by omega)
        have t9 := t8.span sp (by omega)
        have b9 := b8.trans (sp.below (by omega) b8.size)
        obtain ⟨h0, h1, h2, h3, h4, h5, h6, h7, h8, h9, h10, hf⟩ := eleven q8
        have hne1 : ¬ w3.heap.size = w3.heap.size + 1 := by omega
        clear p8 q8 u8 t8 b8 sp
        go_wp2_with fail
        clear h0 h1 h2 h3 h4 h5 h6 h7 h8 h9 h10 hf g7 fz hne1
        generalize w8.setCell ⟨w3.heap.size + 1, 0, none⟩ (.slice a8 M2.length c8) = w9 at u9 p9 q9 t9 b9 ⊢
        have HST := HI d a8 c8 M2 w9 hok (by have := HM2l.out; omega) h8c t9.row
        obtain ⟨r2, hr2⟩ : ∃ r, stepN d M2 = r := ⟨_, rfl⟩
        have hrc := HF.out
        rw [hr2] at HST hrc
        obtain ⟨e2, M3, lg3⟩ := r2
        dsimp only at hrc
        subst hrc
        clear hr2 HF HB
        refine HST.mono ?_
        rintro e wA hst
        obtain ⟨a10, c10, a10', c10', lo3, hi3, lo4, hi4, rfl, _, _, _, dA⟩ := hst.three
        clear hst HST
        dsimp only
        have kB : Below wA.heap.size wA ((wA.alloc (.cells (cpuCells e2) 28)).alloc (.cells #[.slice a10 M3.length c10] 30)) := ((Below.refl _ _).alloc (Nat.le_refl _) _).alloc (by simp) _
        obtain ⟨pB, _, _⟩ := two_call (w := wA) (cs := cpuCells e2) (zs := #[.slice a10 M3.length c10]) (t := 28) (u := 30) (Below.refl _ _)
        have p10 := (p9.below dA).below kB
        have b10 := bstep (bstep b9 dA) kB
        clear p9 q9 t9 u9 b9 dA kB
        obtain ⟨h0, h1, h2, h3, h4, h5, h6, h7, h8, h9, h10, hf⟩ := eleven p10
        obtain ⟨k0, k1, k2, k3, k4, k5, k6, k7, k8, k9, k10, kf⟩ := eleven pB
        have heq := cpu_eqV e2
        have hlg := HG.out
        have hlg2 : ((lg.length : Int) == 7) = true := beq_iff_eq.2 (by omega)
        clear hlg
        go_wp2
        go_ret
        exact ⟨rfl, b10⟩

end Go.Proofs.YtblchdmemhhcbaaGreat
