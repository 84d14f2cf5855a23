/-
  The law FnCodes, walked over any program whose functions keep chapter 3's contracts.
-/
import Derived.Test.YtblchdmemhhcbaaGreatQStepDrawRam
import Derived.Test.YtblchdmemhhcbaaGreatQStepDrawCpu
import Derived.Test.YtblchdmemhhcbaaGreatQStepStepK
import Derived.Deep.RegionHeld3
import Derived.Test.YtblchdmemhhcbaaGreatQStepOpC
namespace Go.Proofs.YtblchdmemhhcbaaGreat
set_option linter.unusedVariables false
set_option linter.unusedSimpArgs false
open Go.RowKit

/-- A machine that is drawn: its memory's bytes lie in memory of its own, above the cursor. -/
def DrewSmall (n₀ B : Nat) (a : Option Addr) (len cap : Nat) (z : List Int) (w : World) (e : Ending) (w' : World) : Prop :=
  ∃ (c : CpuN) (v : Value) (M : List Nat) (s : Nat × Int), c.ok ∧ M.length ≤ 8192 ∧ e = .returned (.tuple #[cpuV c, ramV v]) ∧ OwnB w' w.heap.size v M ∧ Drawn n₀ B a len cap z s w' ∧ w.grownBy w' (some B)

theorem fillL_le {L : List Nat} {addr : Nat} {X : List Nat} (h : L.length ≤ 8192) : (fillL L addr X).length ≤ 8192 := by
  unfold fillL; split
  · rw [fillAt_len]; exact h
  · simp

abbrev curF (w : World) (B : Nat) : Nat → Prop := fun i => i = B ∨ w.heap.size ≤ i

theorem Turn.cur {w w' : World} {B : Nat} (h : Turn (curF w B) w w') : w.grownBy w' (some B) :=
  ⟨h.os, h.tape, h.output, h.size, fun i hi hn => h.block i hi (fun hf => by rcases hf with e | e; exact hn (by rw [e]); omega)⟩

theorem elevenOne {W : World} {B C : Nat} {t u : TypeId} {a0 a1 a2 a3 a4 a5 a6 a7 a8 a9 a10 v : Value} (h : BoxN W B t #[a0, a1, a2, a3, a4, a5, a6, a7, a8, a9, a10]) (k : BoxN W C u #[v]) :
    W.cell? ⟨B, 0, none⟩ = some a0 ∧ W.cell? ⟨B, 1, none⟩ = some a1 ∧ W.cell? ⟨B, 2, none⟩ = some a2 ∧ W.cell? ⟨B, 3, none⟩ = some a3 ∧ W.cell? ⟨B, 4, none⟩ = some a4 ∧ W.cell? ⟨B, 5, none⟩ = some a5 ∧ W.cell? ⟨B, 6, none⟩ = some a6 ∧ W.cell? ⟨B, 7, none⟩ = some a7 ∧ W.cell? ⟨B, 8, none⟩ = some a8 ∧ W.cell? ⟨B, 9, none⟩ = some a9 ∧ W.cell? ⟨B, 10, none⟩ = some a10 ∧ W.cell? ⟨C, 0, none⟩ = some v :=
  ⟨h.cell 0 _ rfl, h.cell 1 _ rfl, h.cell 2 _ rfl, h.cell 3 _ rfl, h.cell 4 _ rfl, h.cell 5 _ rfl, h.cell 6 _ rfl, h.cell 7 _ rfl, h.cell 8 _ rfl, h.cell 9 _ rfl, h.cell 10 _ rfl, k.cell 0 _ rfl⟩

theorem Drawn.set {n₀ B : Nat} {a : Option Addr} {len cap : Nat} {z : List Int} {s : Nat × Int} {w : World} {n k : Nat} {v : Value} (h : Drawn n₀ B a len cap z s w) (hn : B < n) : Drawn n₀ B a len cap z s (w.setCell ⟨n, k, none⟩ v) := h.grown (grownBy_set1 w n k v) (fun j ej => by simp only [Option.some.injEq] at ej; omega)

theorem cells12_set {W : World} {n k : Nat} {x : Value} {B C : Nat} {a0 a1 a2 a3 a4 a5 a6 a7 a8 a9 a10 a11 : Value} (hB : B ≠ n) (hC : C ≠ n)
    (h : W.cell? ⟨B, 0, none⟩ = some a0 ∧ W.cell? ⟨B, 1, none⟩ = some a1 ∧ W.cell? ⟨B, 2, none⟩ = some a2 ∧ W.cell? ⟨B, 3, none⟩ = some a3 ∧ W.cell? ⟨B, 4, none⟩ = some a4 ∧ W.cell? ⟨B, 5, none⟩ = some a5 ∧ W.cell? ⟨B, 6, none⟩ = some a6 ∧ W.cell? ⟨B, 7, none⟩ = some a7 ∧ W.cell? ⟨B, 8, none⟩ = some a8 ∧ W.cell? ⟨B, 9, none⟩ = some a9 ∧ W.cell? ⟨B, 10, none⟩ = some a10 ∧ W.cell? ⟨C, 0, none⟩ = some a11) :
    (W.setCell ⟨n, k, none⟩ x).cell? ⟨B, 0, none⟩ = some a0 ∧ (W.setCell ⟨n, k, none⟩ x).cell? ⟨B, 1, none⟩ = some a1 ∧ (W.setCell ⟨n, k, none⟩ x).cell? ⟨B, 2, none⟩ = some a2 ∧ (W.setCell ⟨n, k, none⟩ x).cell? ⟨B, 3, none⟩ = some a3 ∧ (W.setCell ⟨n, k, none⟩ x).cell? ⟨B, 4, none⟩ = some a4 ∧ (W.setCell ⟨n, k, none⟩ x).cell? ⟨B, 5, none⟩ = some a5 ∧ (W.setCell ⟨n, k, none⟩ x).cell? ⟨B, 6, none⟩ = some a6 ∧ (W.setCell ⟨n, k, none⟩ x).cell? ⟨B, 7, none⟩ = some a7 ∧ (W.setCell ⟨n, k, none⟩ x).cell? ⟨B, 8, none⟩ = some a8 ∧ (W.setCell ⟨n, k, none⟩ x).cell? ⟨B, 9, none⟩ = some a9 ∧ (W.setCell ⟨n, k, none⟩ x).cell? ⟨B, 10, none⟩ = some a10 ∧ (W.setCell ⟨n, k, none⟩ x).cell? ⟨C, 0, none⟩ = some a11 := by
  obtain ⟨h0, h1, h2, h3, h4, h5, h6, h7, h8, h9, h10, h11⟩ := h
  have e : ∀ (b o : Nat) (v : Value), b ≠ n → W.cell? ⟨b, o, none⟩ = some v → (W.setCell ⟨n, k, none⟩ x).cell? ⟨b, o, none⟩ = some v := fun b o v hn hv => by
    rw [← hv]
    have := Below.heap_setCell W ⟨n, k, none⟩ x b hn
    simp only [World.cell?, this]
  exact ⟨e _ _ _ hB h0, e _ _ _ hB h1, e _ _ _ hB h2, e _ _ _ hB h3, e _ _ _ hB h4, e _ _ _ hB h5, e _ _ _ hB h6, e _ _ _ hB h7, e _ _ _ hB h8, e _ _ _ hB h9, e _ _ _ hB h10, e _ _ _ hC h11⟩

set_option maxRecDepth 100000 in
set_option maxHeartbeats 4000000 in
theorem small_drawn (n₀ B : Nat) (a : Option Addr) (len cap : Nat) (z : List Int) (s : Nat × Int) (w : World) (h : Drawn n₀ B a len cap z s w) :
    Calls Tryz.prog 33 #[.pointer (some ⟨B, 0, none⟩)] w (DrewSmall n₀ B a len cap z w) := by
  have hlt := h.lt
  have d0 : Below w.heap.size w ((w.alloc (.cells zeroCpu 28)).alloc (.cells #[.slice none 0 0] 30)) := ((Below.refl _ _).alloc (Nat.le_refl _) _).alloc (by simp) _
  obtain ⟨y0, x0, _⟩ := two_call (w := w) (cs := zeroCpu) (zs := #[.slice none 0 0]) (t := 28) (u := 30) (Below.refl _ _)
  have h0 := h.below d0
  have T0 : Turn (curF w B) w ((w.alloc (.cells zeroCpu 28)).alloc (.cells #[.slice none 0 0] 30)) := Turn.of_below d0
  have z0 : ((w.alloc (.cells zeroCpu 28)).alloc (.cells #[.slice none 0 0] 30)).heap.size = w.heap.size + 1 + 1 := by simp
  go_enter Tryz.func33, Tryz.ntmps33
  go_wp2_with fail
  refine (ram_drawn n₀ B a len cap z s _ h0).mono ?_
  rintro e w2 ⟨v2, L, s2, hL, rfl, o2, hd2, hg2⟩
  obtain ⟨a2, c2, rfl⟩ := o2.len
  have y2 := y0.grown hg2 (by omega)
  have x2 := x0.grown hg2 (by omega)
  have T2 := T0.trans (Turn.of_grown hg2 (fun g e => by cases e; exact .inl rfl))
  have z2 : w.heap.size + 2 ≤ w2.heap.size := by have := hg2.size; omega
  rw [z0] at o2
  clear y0 x0 T0 z0 d0 h0 hg2 h
  have k3 : Below w2.heap.size w2 (w2.alloc (.cells #[.slice a2 L.length c2] 30)) := (Below.refl _ _).alloc (Nat.le_refl _) _
  have r3 : BoxN (w2.alloc (.cells #[.slice a2 L.length c2] 30)) w2.heap.size 30 #[.slice a2 L.length c2] := BoxN.new _ _ _
  have y3 := y2.below k3
  have x3 := x2.below k3
  have o3 := o2.below k3
  have hd3 := hd2.below k3
  have T3 := T2.trans (Turn.of_below k3)
  clear y2 x2 o2 hd2 T2 k3
  go_wp2_with fail
  refine (cpu_drawn n₀ B a len cap z s2 _ hd3).mono ?_
  rintro e w4 ⟨c, s4, hc, rfl, hd4, hg4⟩
  have r4 := r3.grown hg4 (by omega)
  have y4 := y3.grown hg4 (by omega)
  have x4 := x3.grown hg4 (by omega)
  have o4 := o3.grown hg4 (by omega)
  have T4 := T3.trans (Turn.of_grown hg4 (fun g e => by cases e; exact .inl rfl))
  have z4 : w2.heap.size + 1 ≤ w4.heap.size := by have := hg4.size; rw [World.size_alloc] at this; exact this
  clear r3 y3 x3 o3 hd3 T3 hg4
  have k5 : Below w4.heap.size w4 (w4.alloc (.cells (cpuCells c) 28)) := (Below.refl _ _).alloc (Nat.le_refl _) _
  have p5 : BoxN (w4.alloc (.cells (cpuCells c) 28)) w4.heap.size 28 (cpuCells c) := BoxN.new _ _ _
  have r5 := r4.below k5
  have y5 := y4.below k5
  have x5 := x4.below k5
  have o5 := o4.below k5
  have hd5 := hd4.below k5
  have T5 := T4.trans (Turn.of_below k5)
  have z5 : (w4.alloc (.cells (cpuCells c) 28)).heap.size = w4.heap.size + 1 := World.size_alloc _ _
  clear r4 y4 x4 o4 hd4 T4 k5
  obtain ⟨hA, hX, hY, hS, hP⟩ := hc
  go_wp2_with fail
  generalize w4.alloc (.cells (cpuCells c) 28) = w5 at p5 r5 y5 x5 o5 hd5 T5 z5 ⊢
  have hd5' : Drawn n₀ B a len cap z s4 w5.drew := hd5
  have o5' : OwnB w5.drew (w.heap.size + 1 + 1) (.slice a2 L.length c2) L := o5
  have T5' : Turn (curF w B) w w5.drew := T5.trans (Turn.of_below (Below.refl _ _).drew)
  have n1 : ¬ w4.heap.size = w.heap.size := by omega
  have n2 : ¬ w4.heap.size = w.heap.size + 1 := by omega
  have n3 : ¬ w2.heap.size = w.heap.size := by omega
  have n4 : ¬ w2.heap.size = w.heap.size + 1 := by omega
  have hS : w5.drew.cell? ⟨w4.heap.size, 0, none⟩ = some (.int .u8 (c.A : Int)) ∧ w5.drew.cell? ⟨w4.heap.size, 1, none⟩ = some (.int .u8 (c.X : Int)) ∧ w5.drew.cell? ⟨w4.heap.size, 2, none⟩ = some (.int .u8 (c.Y : Int)) ∧ w5.drew.cell? ⟨w4.heap.size, 3, none⟩ = some (.int .u8 (c.S : Int)) ∧ w5.drew.cell? ⟨w4.heap.size, 4, none⟩ = some (.int .u16 (c.PC : Int)) ∧ w5.drew.cell? ⟨w4.heap.size, 5, none⟩ = some (.bool c.N) ∧ w5.drew.cell? ⟨w4.heap.size, 6, none⟩ = some (.bool c.V) ∧ w5.drew.cell? ⟨w4.heap.size, 7, none⟩ = some (.bool c.D) ∧ w5.drew.cell? ⟨w4.heap.size, 8, none⟩ = some (.bool c.I) ∧ w5.drew.cell? ⟨w4.heap.size, 9, none⟩ = some (.bool c.Z) ∧ w5.drew.cell? ⟨w4.heap.size, 10, none⟩ = some (.bool c.C) ∧ w5.drew.cell? ⟨w2.heap.size, 0, none⟩ = some (.slice a2 L.length c2) := elevenOne p5.drew r5.drew
  go_region_held3 (fun w' => w'.cell? ⟨w4.heap.size, 0, none⟩ = some (.int .u8 (c.A : Int)) ∧ w'.cell? ⟨w4.heap.size, 1, none⟩ = some (.int .u8 (c.X : Int)) ∧ w'.cell? ⟨w4.heap.size, 2, none⟩ = some (.int .u8 (c.Y : Int)) ∧ w'.cell? ⟨w4.heap.size, 3, none⟩ = some (.int .u8 (c.S : Int)) ∧ w'.cell? ⟨w4.heap.size, 4, none⟩ = some (.int .u16 (c.PC : Int)) ∧ w'.cell? ⟨w4.heap.size, 5, none⟩ = some (.bool c.N) ∧ w'.cell? ⟨w4.heap.size, 6, none⟩ = some (.bool c.V) ∧ w'.cell? ⟨w4.heap.size, 7, none⟩ = some (.bool c.D) ∧ w'.cell? ⟨w4.heap.size, 8, none⟩ = some (.bool c.I) ∧ w'.cell? ⟨w4.heap.size, 9, none⟩ = some (.bool c.Z) ∧ w'.cell? ⟨w4.heap.size, 10, none⟩ = some (.bool c.C) ∧ w'.cell? ⟨w2.heap.size, 0, none⟩ = some (.slice a2 L.length c2))
    (((try dsimp only); (first | (with_reducible exact hS) | (with_reducible exact hS6) | (with_reducible exact hSF) | ((repeat (with_reducible refine cells12_set (B := w4.heap.size) (C := w2.heap.size) (by omega) (by omega) ?_)); (with_reducible exact hSF)))))
    (first | (go_at_call 66; refine (bytes_drawn n₀ B a len cap z s4 2 (by omega) _ hd5').mono ?_; rintro e w6 ⟨v6, X, s6, hX6, rfl, o6, hd6, hg6⟩; (obtain ⟨a6, c6, rfl⟩ := o6.len); (have hs6 : w5.heap.size ≤ w6.heap.size := hg6.size); (have p6 := p5.drew.grown hg6 (by omega)); (have r6 := r5.drew.grown hg6 (by omega)); (have hS6 := elevenOne p6 r6)) | (go_at_call 65; refine (specFill_any a2 c2 c.PC L a6 c6 X hP _ (o5'.grown hg6 (by omega)).row.2 o6.row.2 (by unfold maxLen; omega)).mono ?_; rintro e wF ⟨vF, rfl, oF, dF⟩; (obtain ⟨aF, cF, rfl⟩ := oF.len); (have yF := (y5.drew.grown hg6 (by omega)).below dF); (have xF := (x5.drew.grown hg6 (by omega)).below dF); (have hSF := elevenOne (p6.below dF) (r6.below dF)); (obtain ⟨h0, h1, h2, h3, h4, h5, h6, h7, h8, h9, h10, f1⟩ := eleven yF); (have x0c := xF.cell 0 _ rfl); (have fx := fun k => xF.frozen k)))
  all_goals
    have hsF : w6.heap.size ≤ wF.heap.size := dF.size
    have HQ := Lib.hid (And.intro oF (And.intro (hd6.below dF) ((T5'.trans (Turn.of_grown hg6 (fun g e => by cases e; exact .inl rfl))).trans (Turn.of_below dF))))
    clear oF hd6 hg6 dF yF xF p6 r6 hS hS6 hSF hd5 hd5' o5 o5' T5 T5' p5 r5 y5 x5 o6
    go_wp2
    refine bodyPost_ret (v := .tuple #[cpuV c, ramV (.slice aF (fillL L c.PC X).length cF)]) (by simp [results, Tryz.results33, go_sem, h0, h1, h2, h3, h4, h5, h6, h7, h8, h9, h10, x0c]) rfl ?_
    obtain ⟨oF, hdF, TF⟩ := HQ.out
    have sp : Span w.heap.size (w.heap.size + 2) wF ((set11 wF w.heap.size (.int .u8 (c.A : Int)) (.int .u8 (c.X : Int)) (.int .u8 (c.Y : Int)) (.int .u8 (c.S : Int)) (.int .u16 (c.PC : Int)) (.bool c.N) (.bool c.V) (.bool c.D) (.bool c.I) (.bool c.Z) (.bool c.C)).setCell ⟨w.heap.size + 1, 0, none⟩ (.slice aF (fillL L c.PC X).length cF)) := by
      repeat (any_goals (first | (with_reducible exact Span.refl _ _ _) | (with_reducible refine Span.inn ?_ _ ?_ ?_)))
      all_goals omega
    refine ⟨c, _, fillL L c.PC X, s6, ⟨hA, hX, hY, hS, hP⟩, fillL_le hL, rfl, OwnB.base (OwnB.spanned oF sp (fun k ek => by have := ((World.ownsRow.lt oF.2) k ek).1; omega)) (by omega), ?_, ?_⟩
    · repeat (with_reducible refine Drawn.set ?_ (by omega))
      exact hdF
    · exact Turn.cur (TF.trans ⟨sp.os, sp.tape, sp.output, sp.size, fun i hi hn => sp.block i hi (by by_cases hq : w.heap.size ≤ i; exact absurd (.inr hq) hn; omega)⟩)

end Go.Proofs.YtblchdmemhhcbaaGreat

namespace Go.Proofs.YtblchdmemhhcbaaGreat
set_option linter.unusedVariables false
set_option linter.unusedSimpArgs false
open Go.RowKit

/-- A processor and a memory that are drawn. -/
def DrewMach (w : World) (e : Ending) (w' : World) : Prop :=
  ∃ (c : CpuN) (v : Value) (M : List Nat), c.ok ∧ M.length ≤ 8192 ∧ e = .returned (.tuple #[cpuV c, ramV v]) ∧ OwnB w' w.heap.size v M ∧ Below w.heap.size w w'

theorem drew_mach {w W W' : World} {c : CpuN} {a : Option Addr} {cap base : Nat} {L : List Nat} (hc : c.ok) (hL : L.length ≤ 8192) (ho : OwnB W base (.slice a L.length cap) L) (hd : Below w.heap.size w W) (hb : w.heap.size + 2 ≤ base) (hs : Span w.heap.size (w.heap.size + 2) W W') :
    DrewMach w (.returned (.tuple #[cpuV c, ramV (.slice a L.length cap)])) W' :=
  ⟨c, _, L, hc, hL, rfl, OwnB.base (OwnB.spanned ho hs (fun k ek => by have := ((World.ownsRow.lt ho.2) k ek).1; omega)) (by omega), hd.trans (hs.below (Nat.le_refl _) hd.size)⟩

set_option maxRecDepth 100000 in
set_option maxHeartbeats 4000000 in
theorem drawStep_any (n₀ : Nat) (a : Option Addr) (len cap : Nat) (z : List Int) (w : World) (hc : CodeRow n₀ w a len z) (hn : n₀ ≤ w.heap.size) :
    Calls Tryz.prog 9 #[.slice a len cap] w (DrewMach w) := by
  have d0 : Below w.heap.size w ((w.alloc (.cells zeroCpu 28)).alloc (.cells #[.slice none 0 0] 30)) := ((Below.refl _ _).alloc (Nat.le_refl _) _).alloc (by simp) _
  obtain ⟨y0, x0, _⟩ := two_call (w := w) (cs := zeroCpu) (zs := #[.slice none 0 0]) (t := 28) (u := 30) (Below.refl _ _)
  have z0 : ((w.alloc (.cells zeroCpu 28)).alloc (.cells #[.slice none 0 0] 30)).heap.size = w.heap.size + 1 + 1 := by simp
  have hc0 := hc.kept (d0.mono hn)
  have hn0 : n₀ ≤ ((w.alloc (.cells zeroCpu 28)).alloc (.cells #[.slice none 0 0] 30)).heap.size := Nat.le_trans hn d0.size
  have hst := hc0.startS (cap := cap) hn0
  rw [z0] at hst
  go_enter Tryz.func9, Tryz.ntmps9
  go_wp2_with fail
  refine (new_any n₀ a len cap z _ hc0).mono ?_
  rintro e w1 ⟨rfl, rfl⟩
  have al := (Below.refl ((w.alloc (.cells zeroCpu 28)).alloc (.cells #[.slice none 0 0] 30)).heap.size ((w.alloc (.cells zeroCpu 28)).alloc (.cells #[.slice none 0 0] 30))).alloc (Nat.le_refl _) (.cells #[.slice a len cap, .int .i64 0, .int .i64 (startH z len)] 95)
  have d1 := bstep d0 al
  have y1 := y0.below al
  have x1 := x0.below al
  rw [z0]
  generalize ((w.alloc (.cells zeroCpu 28)).alloc (.cells #[.slice none 0 0] 30)).alloc (.cells #[.slice a len cap, .int .i64 0, .int .i64 (startH z len)] 95) = w1 at hst d1 y1 x1 ⊢
  have hlt := hst.lt
  clear y0 x0 d0 hc0 hn0 al z0
  go_wp2_with fail
  refine (small_drawn n₀ _ a len cap z _ _ hst).mono ?_
  rintro e w2 ⟨c, v2, L, s2, hcc, hL, rfl, o2, hd2, hg2⟩
  obtain ⟨a2, c2, rfl⟩ := o2.len
  have y2 := y1.grown hg2 (by omega)
  have x2 := x1.grown hg2 (by omega)
  have d2 : Below w.heap.size w w2 := d1.trans (grown_below hg2 (by omega) hlt)
  have hs2 := hg2.size
  clear y1 x1 hst d1 hg2
  have k3 : Below w2.heap.size w2 ((w2.alloc (.cells (cpuCells c) 28)).alloc (.cells #[.slice a2 L.length c2] 30)) := ((Below.refl _ _).alloc (Nat.le_refl _) _).alloc (by simp) _
  obtain ⟨p3, r3, _⟩ := two_call (w := w2) (cs := cpuCells c) (zs := #[.slice a2 L.length c2]) (t := 28) (u := 30) (Below.refl _ _)
  have y3 := y2.below k3
  have x3 := x2.below k3
  have o3 := o2.below k3
  have hd3 := hd2.below k3
  have d3 := bstep d2 k3
  have z3 : ((w2.alloc (.cells (cpuCells c) 28)).alloc (.cells #[.slice a2 L.length c2] 30)).heap.size = w2.heap.size + 1 + 1 := by simp
  clear y2 x2 o2 hd2 d2 k3
  go_wp2_with fail
  generalize (w2.alloc (.cells (cpuCells c) 28)).alloc (.cells #[.slice a2 L.length c2] 30) = w3 at p3 r3 y3 x3 o3 hd3 d3 z3 ⊢
  refine (once_drawn n₀ _ a len cap z s2 20 _ hd3).mono ?_
  rintro e w4 ⟨rfl, hd4, hg4⟩
  have p4 := p3.grown hg4 (by omega)
  have r4 := r3.grown hg4 (by omega)
  have y4 := y3.grown hg4 (by omega)
  have x4 := x3.grown hg4 (by omega)
  have o4 := o3.grown hg4 (by omega)
  have d4 : Below w.heap.size w w4 := d3.trans (grown_below hg4 (by omega) hd3.lt)
  have hs4 := hg4.size
  clear p3 r3 y3 x3 o3 d3 hd3 hg4
  cases hq : (belowV z len s2 20 == 0) with
  | false =>
    go_wp2_with fail
    obtain ⟨g0, g1, g2, g3, g4, g5, g6, g7, g8, g9, g10, f0⟩ := eleven p4
    have r0c : w4.cell? ⟨w2.heap.size + 1, 0, none⟩ = some (.slice a2 L.length c2) := r4.cell 0 _ rfl
    obtain ⟨h0, h1, h2, h3, h4, h5, h6, h7, h8, h9, h10, f1⟩ := eleven y4
    have x0c : w4.cell? ⟨w.heap.size + 1, 0, none⟩ = some (.slice none 0 0) := x4.cell 0 _ rfl
    have fx := fun k => x4.frozen k
    have n1 : ¬ w2.heap.size = w.heap.size := by omega
    have n2 : ¬ w2.heap.size = w.heap.size + 1 := by omega
    have n3 : ¬ w2.heap.size + 1 = w.heap.size := by omega
    have n4 : ¬ w2.heap.size + 1 = w.heap.size + 1 := by omega
    go_region
    all_goals
      go_wp2
      refine bodyPost_ret (v := .tuple #[cpuV c, ramV (.slice a2 L.length c2)]) (by simp [results, Tryz.results9, go_sem, h0, h1, h2, h3, h4, h5, h6, h7, h8, h9, h10, x0c]) rfl ?_
      refine drew_mach hcc hL o4 d4 (by omega) ?_
      repeat (any_goals (first | (with_reducible exact Span.refl _ _ _) | (with_reducible refine Span.drew ?_) | (with_reducible refine Span.inn ?_ _ ?_ ?_)))
      all_goals omega
  | true =>
    go_wp2_with fail
    have hS : w4.drew.cell? ⟨w2.heap.size, 0, none⟩ = some (.int .u8 (c.A : Int)) ∧ w4.drew.cell? ⟨w2.heap.size, 1, none⟩ = some (.int .u8 (c.X : Int)) ∧ w4.drew.cell? ⟨w2.heap.size, 2, none⟩ = some (.int .u8 (c.Y : Int)) ∧ w4.drew.cell? ⟨w2.heap.size, 3, none⟩ = some (.int .u8 (c.S : Int)) ∧ w4.drew.cell? ⟨w2.heap.size, 4, none⟩ = some (.int .u16 (c.PC : Int)) ∧ w4.drew.cell? ⟨w2.heap.size, 5, none⟩ = some (.bool c.N) ∧ w4.drew.cell? ⟨w2.heap.size, 6, none⟩ = some (.bool c.V) ∧ w4.drew.cell? ⟨w2.heap.size, 7, none⟩ = some (.bool c.D) ∧ w4.drew.cell? ⟨w2.heap.size, 8, none⟩ = some (.bool c.I) ∧ w4.drew.cell? ⟨w2.heap.size, 9, none⟩ = some (.bool c.Z) ∧ w4.drew.cell? ⟨w2.heap.size, 10, none⟩ = some (.bool c.C) ∧ w4.drew.cell? ⟨(w2.heap.size + 1), 0, none⟩ = some (.slice a2 L.length c2) := elevenOne p4.drew r4.drew
    have hd4' : Drawn n₀ (w.heap.size + 1 + 1) a len cap z (belowS len s2 20) w4.drew := hd4
    have y4' := y4.drew
    have x4' := x4.drew
    have d4' := d4.drew
    go_region_held3 (fun w' => w'.cell? ⟨w2.heap.size, 0, none⟩ = some (.int .u8 (c.A : Int)) ∧ w'.cell? ⟨w2.heap.size, 1, none⟩ = some (.int .u8 (c.X : Int)) ∧ w'.cell? ⟨w2.heap.size, 2, none⟩ = some (.int .u8 (c.Y : Int)) ∧ w'.cell? ⟨w2.heap.size, 3, none⟩ = some (.int .u8 (c.S : Int)) ∧ w'.cell? ⟨w2.heap.size, 4, none⟩ = some (.int .u16 (c.PC : Int)) ∧ w'.cell? ⟨w2.heap.size, 5, none⟩ = some (.bool c.N) ∧ w'.cell? ⟨w2.heap.size, 6, none⟩ = some (.bool c.V) ∧ w'.cell? ⟨w2.heap.size, 7, none⟩ = some (.bool c.D) ∧ w'.cell? ⟨w2.heap.size, 8, none⟩ = some (.bool c.I) ∧ w'.cell? ⟨w2.heap.size, 9, none⟩ = some (.bool c.Z) ∧ w'.cell? ⟨w2.heap.size, 10, none⟩ = some (.bool c.C) ∧ w'.cell? ⟨(w2.heap.size + 1), 0, none⟩ = some (.slice a2 L.length c2))
      (((try dsimp only); (first | (with_reducible exact hS) | (with_reducible exact hS5) | ((repeat (with_reducible refine cells12_set (B := w2.heap.size) (C := w2.heap.size + 1) (by omega) (by omega) ?_)); (with_reducible exact hS5)))))
      (first | (go_at_call 35; refine (any_drawn n₀ _ a len cap z _ _ hd4').mono ?_; rintro e w5 ⟨v5, M, s5, hM, rfl, o5, hd5, hg5⟩; (obtain ⟨a5, c5, rfl⟩ := o5.len); (have hs5 : w4.heap.size ≤ w5.heap.size := hg5.size); (have hS5 := elevenOne (p4.drew.grown hg5 (by omega)) (r4.drew.grown hg5 (by omega))); (have y5 := y4'.grown hg5 (by omega)); (have x5 := x4'.grown hg5 (by omega)); (obtain ⟨h0, h1, h2, h3, h4, h5, h6, h7, h8, h9, h10, f1⟩ := eleven y5); (have x0c := x5.cell 0 _ rfl); (have fx := fun k => x5.frozen k)))
    all_goals
      have d5 : Below w.heap.size w w5 := d4'.trans (grown_below hg5 (by omega) hd4'.lt)
      have HQ := Lib.hid (And.intro o5 d5)
      clear o5 d5 hS hS5 p4 r4 hd5 hd4 hd4' o4 y5 x5 y4 x4 y4' x4'
      go_wp2
      refine bodyPost_ret (v := .tuple #[cpuV c, ramV (.slice a5 M.length c5)]) (by simp [results, Tryz.results9, go_sem, h0, h1, h2, h3, h4, h5, h6, h7, h8, h9, h10, x0c]) rfl ?_
      refine drew_mach hcc hM HQ.out.1 HQ.out.2 (by show _ ≤ w4.heap.size; omega) ?_
      repeat (any_goals (first | (with_reducible exact Span.refl _ _ _) | (with_reducible refine Span.drew ?_) | (with_reducible refine Span.inn ?_ _ ?_ ?_)))
      all_goals omega

end Go.Proofs.YtblchdmemhhcbaaGreat

namespace Go.Proofs.YtblchdmemhhcbaaGreat
set_option linter.unusedVariables false
set_option linter.unusedSimpArgs false
open Go.RowKit

theorem OwnB.cap {w : World} {base : Nat} {a : Option Addr} {n c : Nat} {L : List Nat} (h : OwnB w base (.slice a n c) L) : n ≤ c := by
  rcases h.2.2 with ⟨hv, _⟩ | ⟨g, cp, cur, hv, _, _, h1, _⟩
  · simp only [Value.slice.injEq] at hv; omega
  · simp only [Value.slice.injEq] at hv; omega

theorem RowB.take {w : World} {a : Option Addr} {L : List Nat} (h : RowB w a L) (k : Nat) (hk : k ≤ L.length) : RowB w a (L.take k) := by
  have hl : (L.take k).length = k := by simp; omega
  have hg : ∀ i, i < k → (L.take k).getD i 0 = L.getD i 0 := fun i hi => by simp [List.getD, List.getElem?_take, hi]
  refine ⟨fun i hi => ?_, fun h0 => ?_⟩
  · rw [hl] at hi; rw [hg i hi]; exact h.1 i (by omega)
  · rw [hl] at h0
    obtain ⟨g, o, rfl, hgl, hc⟩ := h.2 (by omega)
    refine ⟨g, o, rfl, hgl, fun i hi => ?_⟩
    rw [hl] at hi; rw [hg i hi]; exact hc i (by omega)

theorem RowB.grown {w w' : World} {a : Option Addr} {L : List Nat} {base B : Nat} {c : Nat} (h : OwnB w base (.slice a L.length c) L) (hg : w.grownBy w' (some B)) (hB : B < base) : RowB w' a L := (h.grown hg hB).row.2

end Go.Proofs.YtblchdmemhhcbaaGreat

namespace Go.Proofs.YtblchdmemhhcbaaGreat
set_option linter.unusedVariables false
set_option linter.unusedSimpArgs false
open Go.RowKit

theorem bigCode_any (a : Option Addr) (len cap : Nat) (w : World) :
    Calls Tryz.prog 8 #[.slice a len cap] w fun e w' => e = .returned (.bool (decide ((1048576 : Int) < len))) ∧ w = w' := by
  go_enter Tryz.func8, Tryz.ntmps8
  go_wp2
  go_ret
  exact ⟨rfl, rfl⟩

end Go.Proofs.YtblchdmemhhcbaaGreat
