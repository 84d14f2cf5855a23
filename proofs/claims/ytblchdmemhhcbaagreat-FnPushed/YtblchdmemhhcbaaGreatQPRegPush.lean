/-
  The two regions of FnPushed that leave their order open, each walked once.
-/
import Derived.Test.YtblchdmemhhcbaaGreatQSRegCpu
namespace Go.Proofs.YtblchdmemhhcbaaGreat
set_option linter.unusedVariables false
set_option linter.unusedSimpArgs false
open Go.RowKit

theorem loadIC {w : World} {B : Nat} {c : CpuN} (h : BoxN w B 28 (cpuCells c)) : (Instr.loadAt 28 (.pointer (some ⟨B, 0, none⟩))).run Tryz.prog w = .ok (cpuV c) w := by
  obtain ⟨g0, g1, g2, g3, g4, g5, g6, g7, g8, g9, g10, gf⟩ := eleven h
  simp [go_sem, g0, g1, g2, g3, g4, g5, g6, g7, g8, g9, g10]

theorem nr {p q : Prop} (h : p ∨ q) (n : ¬ p := by decide) : q := h.resolve_left n

theorem cpu_eqP (c : CpuN) (w : World) : (binOp .eql 28 (cpuV c) (cpuV c)).run Tryz.prog w = .ok (.bool true) w := by
  simp [go_sem]

theorem span_new {V w w' : World} {S P : Nat} (h : Span S (S + 1) V w) (k : Span P (P + 1) w w') (hp : V.heap.size ≤ P) : Span S (S + 1) V w' :=
  ⟨k.os.trans h.os, k.tape.trans h.tape, k.output.trans h.output, Nat.le_trans h.size k.size, fun i hi hd => (k.block i (Nat.lt_of_lt_of_le hi h.size) (.inl (by omega))).trans (h.block i hi hd)⟩

theorem bytesNew (w : World) (L : List Nat) (hL : L.length ≤ 3) (hb : ∀ i, i < L.length → L.getD i 0 < 256) : SegB (w.alloc (.cells (L.map u8V).toArray 5)) w.heap.size (w.heap.size + 1) (.slice (some ⟨w.heap.size, 0, none⟩) L.length L.length) L :=
  ⟨ownNew w L hL hb, fun k ek => by simp [Value.ownBlock] at ek; omega⟩

/-- What a statement leaves that takes a step, the memory into a box S that was there. -/
def TookS (V : World) (r : CpuN × BusN) (S : Nat) (p u : Value) (W : World) : Prop :=
  ∃ P a cap a2 cap2 lo hi lo2 hi2, p = .pointer (some ⟨P, 0, none⟩) ∧ u = .slice a2 r.2.log.length cap2 ∧
    BoxN W P 28 (cpuCells r.1) ∧ BoxN W S 30 #[.slice a r.2.mem.length cap] ∧ SegB W lo hi (.slice a r.2.mem.length cap) r.2.mem ∧ SegC W lo2 hi2 (.slice a2 r.2.log.length cap2) r.2.log ∧
    (V.heap.size ≤ P ∧ V.heap.size ≤ lo ∧ hi ≤ W.heap.size ∧ V.heap.size ≤ lo2 ∧ hi2 ≤ W.heap.size ∧ lo ≤ hi ∧ lo2 ≤ hi2 ∧ (hi ≤ lo2 ∨ hi2 ≤ lo) ∧ (P < lo ∨ hi ≤ P) ∧ (P < lo2 ∨ hi2 ≤ P)) ∧ Span S (S + 1) V W

theorem pushReg7_ops (ops : Array Oper) (h : regionOps 7 (Tryz.f6.body.getD .skip) = some ops) : backward ops = true ∧ ops.size = 14 ∧ IsOp ops 0 (some 36) (.load 28 (.tmp 3)) ∧ IsOp ops 1 (some 37) (.load 30 (.tmp 4)) ∧ IsOp ops 2 (some 38) (.buildSlice 22 2 #[(0, .const (.int .u8 72)), (1, .const (.int .u8 104))]) ∧ IsOp ops 3 (some 39) (.call ⟨.value (.func 20), #[.tmp 37, .const (.int .u16 700), .tmp 38], #[30, 24, 22]⟩) ∧ IsOp ops 4 (some 40) (.call ⟨.value (.func 10), #[.tmp 36, .tmp 39], #[28, 30]⟩) ∧ IsOp ops 5 (some 35) (.move (.tmp 40)) ∧ IsOp ops 6 (some 41) (.extract (.tmp 35) 0) ∧ IsOp ops 7 (some 42) (.extract (.tmp 35) 1) ∧ IsOp ops 8 (some 43) (.extract (.tmp 35) 2) ∧ IsOp ops 9 (some 5) (.alloc 28) ∧ IsOp ops 10 (some 6) (.alloc 30) ∧ IsOp ops 11 none (.store 28 (.tmp 5) (.tmp 41)) ∧ IsOp ops 12 none (.store 30 (.tmp 6) (.tmp 42)) ∧ IsOp ops 13 (some 7) (.assign (.tmp 43)) ∧ Waits ops 3 1 ∧ Waits ops 3 2 ∧ Waits ops 4 0 ∧ Waits ops 4 3 ∧ Waits ops 5 4 ∧ Waits ops 6 5 ∧ Waits ops 7 5 ∧ Waits ops 8 5 ∧ Waits ops 11 9 ∧ Waits ops 11 6 ∧ Waits ops 12 10 ∧ Waits ops 12 7 ∧ Waits ops 13 8 := by
  obtain rfl : ops = (regionOps 7 (Tryz.f6.body.getD .skip)).getD #[] := by rw [h]; rfl
  exact ⟨by kernel_rfl, by kernel_rfl, by unfold IsOp; kernel_rfl, by unfold IsOp; kernel_rfl, by unfold IsOp; kernel_rfl, by unfold IsOp; kernel_rfl, by unfold IsOp; kernel_rfl, by unfold IsOp; kernel_rfl, by unfold IsOp; kernel_rfl, by unfold IsOp; kernel_rfl, by unfold IsOp; kernel_rfl, by unfold IsOp; kernel_rfl, by unfold IsOp; kernel_rfl, by unfold IsOp; kernel_rfl, by unfold IsOp; kernel_rfl, by unfold IsOp; kernel_rfl, by unfold Waits; kernel_rfl, by unfold Waits; kernel_rfl, by unfold Waits; kernel_rfl, by unfold Waits; kernel_rfl, by unfold Waits; kernel_rfl, by unfold Waits; kernel_rfl, by unfold Waits; kernel_rfl, by unfold Waits; kernel_rfl, by unfold Waits; kernel_rfl, by unfold Waits; kernel_rfl, by unfold Waits; kernel_rfl, by unfold Waits; kernel_rfl, by unfold Waits; kernel_rfl⟩

abbrev pushReg7_I (c : CpuN) (r : CpuN × BusN) (sa : Option Addr) (n cap : Nat) (F : List Nat) (V : World) (a0 : Act) (D : Nat → Prop) (a : Act) (w : World) : Prop :=
  FrameIs a0 [5, 6, 7, 35, 36, 37, 38, 39, 40, 41, 42, 43] a ∧ Below V.heap.size V w ∧ ∃ (P : Nat) (Q' : Nat) (bg : Nat) (blo : Nat) (bhi : Nat) (fa : Option Addr) (fcap : Nat) (glo : Nat) (ghi : Nat) (ra : Option Addr) (rcap : Nat) (lo : Nat) (hi : Nat) (ra2 : Option Addr) (rcap2 : Nat) (lo2 : Nat) (hi2 : Nat), (D 0 → a.eval (.tmp 36) = cpuV c) ∧ (D 1 → a.eval (.tmp 37) = ramV (.slice sa n cap)) ∧ (D 2 → a.eval (.tmp 38) = .slice (some ⟨bg, 0, none⟩) 2 2 ∧ SegB w blo bhi (.slice (some ⟨bg, 0, none⟩) 2 2) ([72, 104]) ∧ (V.heap.size ≤ blo) ∧ bhi ≤ w.heap.size) ∧ (D 3 → a.eval (.tmp 39) = ramV (.slice fa F.length fcap) ∧ SegB w glo ghi (.slice fa F.length fcap) (F) ∧ (V.heap.size ≤ glo) ∧ ghi ≤ w.heap.size ∧ (F.length ≤ fcap) ∧ D 2) ∧ (D 4 → a.eval (.tmp 40) = .tuple #[cpuV r.1, ramV (.slice ra r.2.mem.length rcap), .slice ra2 r.2.log.length rcap2] ∧ SegB w lo hi (.slice ra r.2.mem.length rcap) (r.2.mem) ∧ SegC w lo2 hi2 (.slice ra2 r.2.log.length rcap2) (r.2.log) ∧ (V.heap.size ≤ lo ∧ V.heap.size ≤ lo2 ∧ lo ≤ hi ∧ lo2 ≤ hi2 ∧ (hi ≤ lo2 ∨ hi2 ≤ lo)) ∧ hi ≤ w.heap.size ∧ hi2 ≤ w.heap.size ∧ D 2 ∧ D 3) ∧ (D 5 → a.eval (.tmp 35) = .tuple #[cpuV r.1, ramV (.slice ra r.2.mem.length rcap), .slice ra2 r.2.log.length rcap2] ∧ D 2 ∧ D 3 ∧ D 4) ∧ (D 6 → a.eval (.tmp 41) = cpuV r.1 ∧ D 2 ∧ D 3 ∧ D 4) ∧ (D 7 → a.eval (.tmp 42) = ramV (.slice ra r.2.mem.length rcap) ∧ D 2 ∧ D 3 ∧ D 4) ∧ (D 8 → a.eval (.tmp 43) = .slice ra2 r.2.log.length rcap2 ∧ D 2 ∧ D 3 ∧ D 4) ∧ (D 9 → a.eval (.tmp 5) = .pointer (some ⟨P, 0, none⟩) ∧ (V.heap.size ≤ P) ∧ (∃ cs : Array Value, BoxN w P 28 cs ∧ cs.size = 11) ∧ P + 1 ≤ w.heap.size) ∧ (D 10 → a.eval (.tmp 6) = .pointer (some ⟨Q', 0, none⟩) ∧ (V.heap.size ≤ Q') ∧ (∃ cs : Array Value, BoxN w Q' 30 cs ∧ cs.size = 1) ∧ Q' + 1 ≤ w.heap.size) ∧ (D 11 → BoxN w P 28 (cpuCells r.1) ∧ (V.heap.size ≤ P) ∧ D 2 ∧ D 3 ∧ D 4 ∧ D 9) ∧ (D 12 → BoxN w Q' 30 #[.slice ra r.2.mem.length rcap] ∧ (V.heap.size ≤ Q') ∧ D 2 ∧ D 3 ∧ D 4 ∧ D 10) ∧ (D 13 → a.eval (.tmp 7) = .slice ra2 r.2.log.length rcap2 ∧ D 2 ∧ D 3 ∧ D 4) ∧ (D 2 → D 9 → (bhi ≤ P ∨ P + 1 ≤ blo)) ∧ (D 2 → D 10 → (bhi ≤ Q' ∨ Q' + 1 ≤ blo)) ∧ (D 3 → D 9 → (ghi ≤ P ∨ P + 1 ≤ glo)) ∧ (D 3 → D 10 → (ghi ≤ Q' ∨ Q' + 1 ≤ glo)) ∧ (D 4 → D 9 → (hi ≤ P ∨ P + 1 ≤ lo)) ∧ (D 4 → D 9 → (hi2 ≤ P ∨ P + 1 ≤ lo2)) ∧ (D 4 → D 10 → (hi ≤ Q' ∨ Q' + 1 ≤ lo)) ∧ (D 4 → D 10 → (hi2 ≤ Q' ∨ Q' + 1 ≤ lo2)) ∧ (D 9 → D 10 → (P + 1 ≤ Q' ∨ Q' + 1 ≤ P))

set_option maxRecDepth 100000 in
set_option maxHeartbeats 4000000 in
theorem pushReg7 (c : CpuN) (r : CpuN × BusN) (sa : Option Addr) (n cap : Nat) (F L : List Nat) (V : World) (C R : Nat) (hC : BoxN V C 28 (cpuCells c)) (hR : BoxN V R 30 #[.slice sa n cap]) (hrow : RowB V sa L) (HFL : ∀ (g : Nat) (W : World), RowB W sa L → RowB W (some ⟨g, 0, none⟩) [72, 104] → Calls Tryz.prog 20 #[ramV (.slice sa n cap), .int .u16 700, .slice (some ⟨g, 0, none⟩) 2 2] W fun e w' => ∃ v, e = .returned (ramV v) ∧ OwnB w' W.heap.size v F ∧ Below W.heap.size W w') (HS : ∀ (fa : Option Addr) (fcap : Nat) (W : World), F.length ≤ fcap → RowB W fa F → Calls Tryz.prog 10 #[cpuV c, ramV (.slice fa F.length fcap)] W (Stepped W r)) (a0 : Act) (h2 : a0.eval (.tmp 3) = .pointer (some ⟨C, 0, none⟩)) (h3 : a0.eval (.tmp 4) = .pointer (some ⟨R, 0, none⟩)) (hsz : a0.tmps.size = 101) (Q : Exit → Act → World → Prop)
    (hQ : ∀ a w, FrameIs a0 [5, 6, 7, 35, 36, 37, 38, 39, 40, 41, 42, 43] a → Took3 V r (a.eval (.tmp 5)) (a.eval (.tmp 6)) (a.eval (.tmp 7)) w → Q .normal a w)
    (ops : Array Oper) (hops : regionOps 7 (Tryz.f6.body.getD .skip) = some ops) (id : Nat) : (Code.region id ops true).wp Tryz.prog Q a0 V := by
  obtain ⟨hbk, hn, o0, o1, o2, o3, o4, o5, o6, o7, o8, o9, o10, o11, o12, o13, u3_1, u3_2, u4_0, u4_3, u5_4, u6_5, u7_5, u8_5, u11_9, u11_6, u12_10, u12_7, u13_8⟩ := pushReg7_ops ops hops
  clear hops
  refine wp_region_facts (by kernel_rfl) hbk (pushReg7_I c r sa n cap F V a0) ?_ ?_ id a0 V ?_
  · intro i hin D a w hnd hdep hI
    obtain ⟨hf, hb, P, Q', bg, blo, bhi, fa, fcap, glo, ghi, ra, rcap, lo, hi, ra2, rcap2, lo2, hi2, f0, f1, f2, f3, f4, f5, f6, f7, f8, f9, f10, f11, f12, f13, x0, x1, x2, x3, x4, x5, x6, x7, x8⟩ := hI
    rw [hn] at hin
    have hz : a.tmps.size = 101 := hf.size.trans hsz
    have hbs := hb.size
    have rf := Below.refl w.heap.size w
    have K0 : ∀ (d : Nat) (v : Value) (w' : World), 36 ≠ d → Below w.heap.size w w' → D 0 → (a.put (some d) v).eval (.tmp 36) = cpuV c := fun d v w' hd hbw h => by have g0 := f0 h; exact ((eval_put_ne hd).trans g0)
    have K1 : ∀ (d : Nat) (v : Value) (w' : World), 37 ≠ d → Below w.heap.size w w' → D 1 → (a.put (some d) v).eval (.tmp 37) = ramV (.slice sa n cap) := fun d v w' hd hbw h => by have g0 := f1 h; exact ((eval_put_ne hd).trans g0)
    have K2 : ∀ (d : Nat) (v : Value) (w' : World), 38 ≠ d → Below w.heap.size w w' → D 2 → (a.put (some d) v).eval (.tmp 38) = .slice (some ⟨bg, 0, none⟩) 2 2 ∧ SegB w' blo bhi (.slice (some ⟨bg, 0, none⟩) 2 2) ([72, 104]) ∧ (V.heap.size ≤ blo) ∧ bhi ≤ w'.heap.size := fun d v w' hd hbw h => by obtain ⟨g0, g1, g2, g3⟩ := f2 h; exact ⟨((eval_put_ne hd).trans g0), (g1.below hbw), g2, (Nat.le_trans g3 hbw.size)⟩
    have K3 : ∀ (d : Nat) (v : Value) (w' : World), 39 ≠ d → Below w.heap.size w w' → D 3 → (a.put (some d) v).eval (.tmp 39) = ramV (.slice fa F.length fcap) ∧ SegB w' glo ghi (.slice fa F.length fcap) (F) ∧ (V.heap.size ≤ glo) ∧ ghi ≤ w'.heap.size ∧ (F.length ≤ fcap) ∧ (2 = i ∨ D 2) := fun d v w' hd hbw h => by obtain ⟨g0, g1, g2, g3, g4, g5⟩ := f3 h; exact ⟨((eval_put_ne hd).trans g0), (g1.below hbw), g2, (Nat.le_trans g3 hbw.size), g4, (Or.inr g5)⟩
    have K4 : ∀ (d : Nat) (v : Value) (w' : World), 40 ≠ d → Below w.heap.size w w' → D 4 → (a.put (some d) v).eval (.tmp 40) = .tuple #[cpuV r.1, ramV (.slice ra r.2.mem.length rcap), .slice ra2 r.2.log.length rcap2] ∧ SegB w' lo hi (.slice ra r.2.mem.length rcap) (r.2.mem) ∧ SegC w' lo2 hi2 (.slice ra2 r.2.log.length rcap2) (r.2.log) ∧ (V.heap.size ≤ lo ∧ V.heap.size ≤ lo2 ∧ lo ≤ hi ∧ lo2 ≤ hi2 ∧ (hi ≤ lo2 ∨ hi2 ≤ lo)) ∧ hi ≤ w'.heap.size ∧ hi2 ≤ w'.heap.size ∧ (2 = i ∨ D 2) ∧ (3 = i ∨ D 3) := fun d v w' hd hbw h => by obtain ⟨g0, g1, g2, g3, g4, g5, g6, g7⟩ := f4 h; exact ⟨((eval_put_ne hd).trans g0), (g1.below hbw), (g2.below hbw), g3, (Nat.le_trans g4 hbw.size), (Nat.le_trans g5 hbw.size), (Or.inr g6), (Or.inr g7)⟩
    have K5 : ∀ (d : Nat) (v : Value) (w' : World), 35 ≠ d → Below w.heap.size w w' → D 5 → (a.put (some d) v).eval (.tmp 35) = .tuple #[cpuV r.1, ramV (.slice ra r.2.mem.length rcap), .slice ra2 r.2.log.length rcap2] ∧ (2 = i ∨ D 2) ∧ (3 = i ∨ D 3) ∧ (4 = i ∨ D 4) := fun d v w' hd hbw h => by obtain ⟨g0, g1, g2, g3⟩ := f5 h; exact ⟨((eval_put_ne hd).trans g0), (Or.inr g1), (Or.inr g2), (Or.inr g3)⟩
    have K6 : ∀ (d : Nat) (v : Value) (w' : World), 41 ≠ d → Below w.heap.size w w' → D 6 → (a.put (some d) v).eval (.tmp 41) = cpuV r.1 ∧ (2 = i ∨ D 2) ∧ (3 = i ∨ D 3) ∧ (4 = i ∨ D 4) := fun d v w' hd hbw h => by obtain ⟨g0, g1, g2, g3⟩ := f6 h; exact ⟨((eval_put_ne hd).trans g0), (Or.inr g1), (Or.inr g2), (Or.inr g3)⟩
    have K7 : ∀ (d : Nat) (v : Value) (w' : World), 42 ≠ d → Below w.heap.size w w' → D 7 → (a.put (some d) v).eval (.tmp 42) = ramV (.slice ra r.2.mem.length rcap) ∧ (2 = i ∨ D 2) ∧ (3 = i ∨ D 3) ∧ (4 = i ∨ D 4) := fun d v w' hd hbw h => by obtain ⟨g0, g1, g2, g3⟩ := f7 h; exact ⟨((eval_put_ne hd).trans g0), (Or.inr g1), (Or.inr g2), (Or.inr g3)⟩
    have K8 : ∀ (d : Nat) (v : Value) (w' : World), 43 ≠ d → Below w.heap.size w w' → D 8 → (a.put (some d) v).eval (.tmp 43) = .slice ra2 r.2.log.length rcap2 ∧ (2 = i ∨ D 2) ∧ (3 = i ∨ D 3) ∧ (4 = i ∨ D 4) := fun d v w' hd hbw h => by obtain ⟨g0, g1, g2, g3⟩ := f8 h; exact ⟨((eval_put_ne hd).trans g0), (Or.inr g1), (Or.inr g2), (Or.inr g3)⟩
    have K9 : ∀ (d : Nat) (v : Value) (w' : World), 5 ≠ d → Below w.heap.size w w' → D 9 → (a.put (some d) v).eval (.tmp 5) = .pointer (some ⟨P, 0, none⟩) ∧ (V.heap.size ≤ P) ∧ (∃ cs : Array Value, BoxN w' P 28 cs ∧ cs.size = 11) ∧ P + 1 ≤ w'.heap.size := fun d v w' hd hbw h => by obtain ⟨g0, g1, g2, g3⟩ := f9 h; exact ⟨((eval_put_ne hd).trans g0), g1, (by obtain ⟨cs, hcs, hcz⟩ := g2; exact ⟨cs, hcs.below hbw, hcz⟩), (Nat.le_trans g3 hbw.size)⟩
    have K10 : ∀ (d : Nat) (v : Value) (w' : World), 6 ≠ d → Below w.heap.size w w' → D 10 → (a.put (some d) v).eval (.tmp 6) = .pointer (some ⟨Q', 0, none⟩) ∧ (V.heap.size ≤ Q') ∧ (∃ cs : Array Value, BoxN w' Q' 30 cs ∧ cs.size = 1) ∧ Q' + 1 ≤ w'.heap.size := fun d v w' hd hbw h => by obtain ⟨g0, g1, g2, g3⟩ := f10 h; exact ⟨((eval_put_ne hd).trans g0), g1, (by obtain ⟨cs, hcs, hcz⟩ := g2; exact ⟨cs, hcs.below hbw, hcz⟩), (Nat.le_trans g3 hbw.size)⟩
    have K11 : ∀ (w' : World), Below w.heap.size w w' → D 11 → BoxN w' P 28 (cpuCells r.1) ∧ (V.heap.size ≤ P) ∧ (2 = i ∨ D 2) ∧ (3 = i ∨ D 3) ∧ (4 = i ∨ D 4) ∧ (9 = i ∨ D 9) := fun w' hbw h => by obtain ⟨g0, g1, g2, g3, g4, g5⟩ := f11 h; exact ⟨(g0.below hbw), g1, (Or.inr g2), (Or.inr g3), (Or.inr g4), (Or.inr g5)⟩
    have K12 : ∀ (w' : World), Below w.heap.size w w' → D 12 → BoxN w' Q' 30 #[.slice ra r.2.mem.length rcap] ∧ (V.heap.size ≤ Q') ∧ (2 = i ∨ D 2) ∧ (3 = i ∨ D 3) ∧ (4 = i ∨ D 4) ∧ (10 = i ∨ D 10) := fun w' hbw h => by obtain ⟨g0, g1, g2, g3, g4, g5⟩ := f12 h; exact ⟨(g0.below hbw), g1, (Or.inr g2), (Or.inr g3), (Or.inr g4), (Or.inr g5)⟩
    have K13 : ∀ (d : Nat) (v : Value) (w' : World), 7 ≠ d → Below w.heap.size w w' → D 13 → (a.put (some d) v).eval (.tmp 7) = .slice ra2 r.2.log.length rcap2 ∧ (2 = i ∨ D 2) ∧ (3 = i ∨ D 3) ∧ (4 = i ∨ D 4) := fun d v w' hd hbw h => by obtain ⟨g0, g1, g2, g3⟩ := f13 h; exact ⟨((eval_put_ne hd).trans g0), (Or.inr g1), (Or.inr g2), (Or.inr g3)⟩
    obtain (rfl | rfl | rfl | rfl | rfl | rfl | rfl | rfl | rfl | rfl | rfl | rfl | rfl | rfl) : i = 0 ∨ i = 1 ∨ i = 2 ∨ i = 3 ∨ i = 4 ∨ i = 5 ∨ i = 6 ∨ i = 7 ∨ i = 8 ∨ i = 9 ∨ i = 10 ∨ i = 11 ∨ i = 12 ∨ i = 13 := by omega
    · refine op_load o0 ((hf.eval (by decide)).trans h2) (loadIC (hC.below hb)) ?_
      exact ⟨hf.put (by decide) _, hb, P, Q', bg, blo, bhi, fa, fcap, glo, ghi, ra, rcap, lo, hi, ra2, rcap2, lo2, hi2, fun _ => eval_put_self (by rw [hz]; decide),
        fun h => K1 _ _ _ (by decide) rf (nr h),
        fun h => K2 _ _ _ (by decide) rf (nr h),
        fun h => K3 _ _ _ (by decide) rf (nr h),
        fun h => K4 _ _ _ (by decide) rf (nr h),
        fun h => K5 _ _ _ (by decide) rf (nr h),
        fun h => K6 _ _ _ (by decide) rf (nr h),
        fun h => K7 _ _ _ (by decide) rf (nr h),
        fun h => K8 _ _ _ (by decide) rf (nr h),
        fun h => K9 _ _ _ (by decide) rf (nr h),
        fun h => K10 _ _ _ (by decide) rf (nr h),
        fun h => K11 _ rf (nr h),
        fun h => K12 _ rf (nr h),
        fun h => K13 _ _ _ (by decide) rf (nr h),
        fun h1 h2 => x0 (nr h1) (nr h2),
        fun h1 h2 => x1 (nr h1) (nr h2),
        fun h1 h2 => x2 (nr h1) (nr h2),
        fun h1 h2 => x3 (nr h1) (nr h2),
        fun h1 h2 => x4 (nr h1) (nr h2),
        fun h1 h2 => x5 (nr h1) (nr h2),
        fun h1 h2 => x6 (nr h1) (nr h2),
        fun h1 h2 => x7 (nr h1) (nr h2),
        fun h1 h2 => x8 (nr h1) (nr h2)⟩
    · refine op_load o1 ((hf.eval (by decide)).trans h3) (loadIR (hR.below hb)) ?_
      exact ⟨hf.put (by decide) _, hb, P, Q', bg, blo, bhi, fa, fcap, glo, ghi, ra, rcap, lo, hi, ra2, rcap2, lo2, hi2, fun h => K0 _ _ _ (by decide) rf (nr h),
        fun _ => eval_put_self (by rw [hz]; decide),
        fun h => K2 _ _ _ (by decide) rf (nr h),
        fun h => K3 _ _ _ (by decide) rf (nr h),
        fun h => K4 _ _ _ (by decide) rf (nr h),
        fun h => K5 _ _ _ (by decide) rf (nr h),
        fun h => K6 _ _ _ (by decide) rf (nr h),
        fun h => K7 _ _ _ (by decide) rf (nr h),
        fun h => K8 _ _ _ (by decide) rf (nr h),
        fun h => K9 _ _ _ (by decide) rf (nr h),
        fun h => K10 _ _ _ (by decide) rf (nr h),
        fun h => K11 _ rf (nr h),
        fun h => K12 _ rf (nr h),
        fun h => K13 _ _ _ (by decide) rf (nr h),
        fun h1 h2 => x0 (nr h1) (nr h2),
        fun h1 h2 => x1 (nr h1) (nr h2),
        fun h1 h2 => x2 (nr h1) (nr h2),
        fun h1 h2 => x3 (nr h1) (nr h2),
        fun h1 h2 => x4 (nr h1) (nr h2),
        fun h1 h2 => x5 (nr h1) (nr h2),
        fun h1 h2 => x6 (nr h1) (nr h2),
        fun h1 h2 => x7 (nr h1) (nr h2),
        fun h1 h2 => x8 (nr h1) (nr h2)⟩
    · refine op_bytes (v := .slice (some ⟨w.heap.size, 0, none⟩) 2 2) (w' := w.alloc (.cells #[.int .u8 72, .int .u8 104] 5)) o2 (by simp [go_sem]) ?_
      have hbw := alw w (.cells #[.int .u8 72, .int .u8 104] 5)
      have hb' := below_step hb hbw (Nat.le_refl _)
      have hnb : SegB (w.alloc (.cells #[.int .u8 72, .int .u8 104] 5)) w.heap.size (w.heap.size + 1) (.slice (some ⟨w.heap.size, 0, none⟩) 2 2) [72, 104] := bytesNew w _ (by decide) (by decide)
      exact ⟨hf.put (by decide) _, hb', P, Q', w.heap.size, w.heap.size, (w.heap.size + 1), fa, fcap, glo, ghi, ra, rcap, lo, hi, ra2, rcap2, lo2, hi2, fun h => K0 _ _ _ (by decide) hbw (nr h),
        fun h => K1 _ _ _ (by decide) hbw (nr h),
        fun _ => ⟨eval_put_self (by rw [hz]; decide), hnb, hbs, Nat.le_of_eq (World.size_alloc _ _).symm⟩,
        fun h => by have h' := (nr h); obtain ⟨g0, g1, g2, g3, g4, g5⟩ := f3 h'; exact absurd g5 hnd,
        fun h => by have h' := (nr h); obtain ⟨g0, g1, g2, g3, g4, g5, g6, g7⟩ := f4 h'; exact absurd g6 hnd,
        fun h => by have h' := (nr h); obtain ⟨g0, g1, g2, g3⟩ := f5 h'; exact absurd g1 hnd,
        fun h => by have h' := (nr h); obtain ⟨g0, g1, g2, g3⟩ := f6 h'; exact absurd g1 hnd,
        fun h => by have h' := (nr h); obtain ⟨g0, g1, g2, g3⟩ := f7 h'; exact absurd g1 hnd,
        fun h => by have h' := (nr h); obtain ⟨g0, g1, g2, g3⟩ := f8 h'; exact absurd g1 hnd,
        fun h => K9 _ _ _ (by decide) hbw (nr h),
        fun h => K10 _ _ _ (by decide) hbw (nr h),
        fun h => by have h' := (nr h); obtain ⟨g0, g1, g2, g3, g4, g5⟩ := f11 h'; exact absurd g2 hnd,
        fun h => by have h' := (nr h); obtain ⟨g0, g1, g2, g3, g4, g5⟩ := f12 h'; exact absurd g2 hnd,
        fun h => by have h' := (nr h); obtain ⟨g0, g1, g2, g3⟩ := f13 h'; exact absurd g1 hnd,
        fun h1 h2 => by have h' := (nr h2); obtain ⟨g0, g1, g2, g3⟩ := f9 h'; omega,
        fun h1 h2 => by have h' := (nr h2); obtain ⟨g0, g1, g2, g3⟩ := f10 h'; omega,
        fun h1 h2 => x2 (nr h1) (nr h2),
        fun h1 h2 => x3 (nr h1) (nr h2),
        fun h1 h2 => x4 (nr h1) (nr h2),
        fun h1 h2 => x5 (nr h1) (nr h2),
        fun h1 h2 => x6 (nr h1) (nr h2),
        fun h1 h2 => x7 (nr h1) (nr h2),
        fun h1 h2 => x8 (nr h1) (nr h2)⟩
    · have d1 := waits u3_1 hdep
      have e1_0 := f1 d1
      have d2 := waits u3_2 hdep
      obtain ⟨e2_0, e2_1, e2_2, e2_3⟩ := f2 d2
      refine op_call o3 (by simp only [List.map_toArray, List.map_cons, List.map_nil, eval_const, e1_0, e2_0]) rfl ((HFL bg w (RowB.below hrow hb) e2_1.row).mono ?_)
      rintro e w' ⟨v, rfl, om, hbw⟩
      have hbz := hbw.size
      have hsb := SegB.of om
      obtain ⟨fa', fcap', rfl, hfc⟩ := hsb.len
      have hb' := below_step hb hbw (Nat.le_refl _)
      refine ⟨_, rfl, ?_⟩
      exact ⟨hf.put (by decide) _, hb', P, Q', bg, blo, bhi, fa', fcap', w.heap.size, w'.heap.size, ra, rcap, lo, hi, ra2, rcap2, lo2, hi2, fun h => K0 _ _ _ (by decide) hbw (nr h),
        fun h => K1 _ _ _ (by decide) hbw (nr h),
        fun h => K2 _ _ _ (by decide) hbw (nr h),
        fun _ => ⟨eval_put_self (by rw [hz]; decide), hsb, hbs, Nat.le_refl _, hfc, Or.inr d2⟩,
        fun h => by have h' := (nr h); obtain ⟨g0, g1, g2, g3, g4, g5, g6, g7⟩ := f4 h'; exact absurd g7 hnd,
        fun h => by have h' := (nr h); obtain ⟨g0, g1, g2, g3⟩ := f5 h'; exact absurd g2 hnd,
        fun h => by have h' := (nr h); obtain ⟨g0, g1, g2, g3⟩ := f6 h'; exact absurd g2 hnd,
        fun h => by have h' := (nr h); obtain ⟨g0, g1, g2, g3⟩ := f7 h'; exact absurd g2 hnd,
        fun h => by have h' := (nr h); obtain ⟨g0, g1, g2, g3⟩ := f8 h'; exact absurd g2 hnd,
        fun h => K9 _ _ _ (by decide) hbw (nr h),
        fun h => K10 _ _ _ (by decide) hbw (nr h),
        fun h => by have h' := (nr h); obtain ⟨g0, g1, g2, g3, g4, g5⟩ := f11 h'; exact absurd g3 hnd,
        fun h => by have h' := (nr h); obtain ⟨g0, g1, g2, g3, g4, g5⟩ := f12 h'; exact absurd g3 hnd,
        fun h => by have h' := (nr h); obtain ⟨g0, g1, g2, g3⟩ := f13 h'; exact absurd g2 hnd,
        fun h1 h2 => x0 (nr h1) (nr h2),
        fun h1 h2 => x1 (nr h1) (nr h2),
        fun h1 h2 => by have h' := (nr h2); obtain ⟨g0, g1, g2, g3⟩ := f9 h'; omega,
        fun h1 h2 => by have h' := (nr h2); obtain ⟨g0, g1, g2, g3⟩ := f10 h'; omega,
        fun h1 h2 => x4 (nr h1) (nr h2),
        fun h1 h2 => x5 (nr h1) (nr h2),
        fun h1 h2 => x6 (nr h1) (nr h2),
        fun h1 h2 => x7 (nr h1) (nr h2),
        fun h1 h2 => x8 (nr h1) (nr h2)⟩
    · have d0 := waits u4_0 hdep
      have e0_0 := f0 d0
      have d3 := waits u4_3 hdep
      obtain ⟨e3_0, e3_1, e3_2, e3_3, e3_4, e3_5⟩ := f3 d3
      refine op_call o4 (by simp only [List.map_toArray, List.map_cons, List.map_nil, eval_const, e0_0, e3_0]) rfl ((HS fa fcap w e3_4 e3_1.row).mono ?_)
      rintro e w' hst
      obtain ⟨ya, ycap, ya2, ycap2, ylo, yhi, ylo2, yhi2, rfl, sm, sc, ⟨q1, q2, q3, q4, q5, q6, q7⟩, hbw⟩ := hst.three
      have hbz := hbw.size
      have hb' := below_step hb hbw (Nat.le_refl _)
      refine ⟨_, rfl, ?_⟩
      exact ⟨hf.put (by decide) _, hb', P, Q', bg, blo, bhi, fa, fcap, glo, ghi, ya, ycap, ylo, yhi, ya2, ycap2, ylo2, yhi2, fun h => K0 _ _ _ (by decide) hbw (nr h),
        fun h => K1 _ _ _ (by decide) hbw (nr h),
        fun h => K2 _ _ _ (by decide) hbw (nr h),
        fun h => K3 _ _ _ (by decide) hbw (nr h),
        fun _ => ⟨eval_put_self (by rw [hz]; decide), sm, sc, ⟨by omega, by omega, q5, q6, q7⟩, q2, q4, Or.inr e3_5, Or.inr d3⟩,
        fun h => by have h' := (nr h); obtain ⟨g0, g1, g2, g3⟩ := f5 h'; exact absurd g3 hnd,
        fun h => by have h' := (nr h); obtain ⟨g0, g1, g2, g3⟩ := f6 h'; exact absurd g3 hnd,
        fun h => by have h' := (nr h); obtain ⟨g0, g1, g2, g3⟩ := f7 h'; exact absurd g3 hnd,
        fun h => by have h' := (nr h); obtain ⟨g0, g1, g2, g3⟩ := f8 h'; exact absurd g3 hnd,
        fun h => K9 _ _ _ (by decide) hbw (nr h),
        fun h => K10 _ _ _ (by decide) hbw (nr h),
        fun h => by have h' := (nr h); obtain ⟨g0, g1, g2, g3, g4, g5⟩ := f11 h'; exact absurd g4 hnd,
        fun h => by have h' := (nr h); obtain ⟨g0, g1, g2, g3, g4, g5⟩ := f12 h'; exact absurd g4 hnd,
        fun h => by have h' := (nr h); obtain ⟨g0, g1, g2, g3⟩ := f13 h'; exact absurd g3 hnd,
        fun h1 h2 => x0 (nr h1) (nr h2),
        fun h1 h2 => x1 (nr h1) (nr h2),
        fun h1 h2 => x2 (nr h1) (nr h2),
        fun h1 h2 => x3 (nr h1) (nr h2),
        fun h1 h2 => by have h' := (nr h2); obtain ⟨g0, g1, g2, g3⟩ := f9 h'; omega,
        fun h1 h2 => by have h' := (nr h2); obtain ⟨g0, g1, g2, g3⟩ := f9 h'; omega,
        fun h1 h2 => by have h' := (nr h2); obtain ⟨g0, g1, g2, g3⟩ := f10 h'; omega,
        fun h1 h2 => by have h' := (nr h2); obtain ⟨g0, g1, g2, g3⟩ := f10 h'; omega,
        fun h1 h2 => x8 (nr h1) (nr h2)⟩
    · have d4 := waits u5_4 hdep
      obtain ⟨e4_0, e4_1, e4_2, e4_3, e4_4, e4_5, e4_6, e4_7⟩ := f4 d4
      refine op_move o5 e4_0 ?_
      exact ⟨hf.put (by decide) _, hb, P, Q', bg, blo, bhi, fa, fcap, glo, ghi, ra, rcap, lo, hi, ra2, rcap2, lo2, hi2, fun h => K0 _ _ _ (by decide) rf (nr h),
        fun h => K1 _ _ _ (by decide) rf (nr h),
        fun h => K2 _ _ _ (by decide) rf (nr h),
        fun h => K3 _ _ _ (by decide) rf (nr h),
        fun h => K4 _ _ _ (by decide) rf (nr h),
        fun _ => ⟨eval_put_self (by rw [hz]; decide), Or.inr e4_6, Or.inr e4_7, Or.inr d4⟩,
        fun h => K6 _ _ _ (by decide) rf (nr h),
        fun h => K7 _ _ _ (by decide) rf (nr h),
        fun h => K8 _ _ _ (by decide) rf (nr h),
        fun h => K9 _ _ _ (by decide) rf (nr h),
        fun h => K10 _ _ _ (by decide) rf (nr h),
        fun h => K11 _ rf (nr h),
        fun h => K12 _ rf (nr h),
        fun h => K13 _ _ _ (by decide) rf (nr h),
        fun h1 h2 => x0 (nr h1) (nr h2),
        fun h1 h2 => x1 (nr h1) (nr h2),
        fun h1 h2 => x2 (nr h1) (nr h2),
        fun h1 h2 => x3 (nr h1) (nr h2),
        fun h1 h2 => x4 (nr h1) (nr h2),
        fun h1 h2 => x5 (nr h1) (nr h2),
        fun h1 h2 => x6 (nr h1) (nr h2),
        fun h1 h2 => x7 (nr h1) (nr h2),
        fun h1 h2 => x8 (nr h1) (nr h2)⟩
    · have d5 := waits u6_5 hdep
      obtain ⟨e5_0, e5_1, e5_2, e5_3⟩ := f5 d5
      refine op_extract o6 e5_0 (by rfl) ?_
      exact ⟨hf.put (by decide) _, hb, P, Q', bg, blo, bhi, fa, fcap, glo, ghi, ra, rcap, lo, hi, ra2, rcap2, lo2, hi2, fun h => K0 _ _ _ (by decide) rf (nr h),
        fun h => K1 _ _ _ (by decide) rf (nr h),
        fun h => K2 _ _ _ (by decide) rf (nr h),
        fun h => K3 _ _ _ (by decide) rf (nr h),
        fun h => K4 _ _ _ (by decide) rf (nr h),
        fun h => K5 _ _ _ (by decide) rf (nr h),
        fun _ => ⟨eval_put_self (by rw [hz]; decide), Or.inr e5_1, Or.inr e5_2, Or.inr e5_3⟩,
        fun h => K7 _ _ _ (by decide) rf (nr h),
        fun h => K8 _ _ _ (by decide) rf (nr h),
        fun h => K9 _ _ _ (by decide) rf (nr h),
        fun h => K10 _ _ _ (by decide) rf (nr h),
        fun h => K11 _ rf (nr h),
        fun h => K12 _ rf (nr h),
        fun h => K13 _ _ _ (by decide) rf (nr h),
        fun h1 h2 => x0 (nr h1) (nr h2),
        fun h1 h2 => x1 (nr h1) (nr h2),
        fun h1 h2 => x2 (nr h1) (nr h2),
        fun h1 h2 => x3 (nr h1) (nr h2),
        fun h1 h2 => x4 (nr h1) (nr h2),
        fun h1 h2 => x5 (nr h1) (nr h2),
        fun h1 h2 => x6 (nr h1) (nr h2),
        fun h1 h2 => x7 (nr h1) (nr h2),
        fun h1 h2 => x8 (nr h1) (nr h2)⟩
    · have d5 := waits u7_5 hdep
      obtain ⟨e5_0, e5_1, e5_2, e5_3⟩ := f5 d5
      refine op_extract o7 e5_0 (by rfl) ?_
      exact ⟨hf.put (by decide) _, hb, P, Q', bg, blo, bhi, fa, fcap, glo, ghi, ra, rcap, lo, hi, ra2, rcap2, lo2, hi2, fun h => K0 _ _ _ (by decide) rf (nr h),
        fun h => K1 _ _ _ (by decide) rf (nr h),
        fun h => K2 _ _ _ (by decide) rf (nr h),
        fun h => K3 _ _ _ (by decide) rf (nr h),
        fun h => K4 _ _ _ (by decide) rf (nr h),
        fun h => K5 _ _ _ (by decide) rf (nr h),
        fun h => K6 _ _ _ (by decide) rf (nr h),
        fun _ => ⟨eval_put_self (by rw [hz]; decide), Or.inr e5_1, Or.inr e5_2, Or.inr e5_3⟩,
        fun h => K8 _ _ _ (by decide) rf (nr h),
        fun h => K9 _ _ _ (by decide) rf (nr h),
        fun h => K10 _ _ _ (by decide) rf (nr h),
        fun h => K11 _ rf (nr h),
        fun h => K12 _ rf (nr h),
        fun h => K13 _ _ _ (by decide) rf (nr h),
        fun h1 h2 => x0 (nr h1) (nr h2),
        fun h1 h2 => x1 (nr h1) (nr h2),
        fun h1 h2 => x2 (nr h1) (nr h2),
        fun h1 h2 => x3 (nr h1) (nr h2),
        fun h1 h2 => x4 (nr h1) (nr h2),
        fun h1 h2 => x5 (nr h1) (nr h2),
        fun h1 h2 => x6 (nr h1) (nr h2),
        fun h1 h2 => x7 (nr h1) (nr h2),
        fun h1 h2 => x8 (nr h1) (nr h2)⟩
    · have d5 := waits u8_5 hdep
      obtain ⟨e5_0, e5_1, e5_2, e5_3⟩ := f5 d5
      refine op_extract o8 e5_0 (by rfl) ?_
      exact ⟨hf.put (by decide) _, hb, P, Q', bg, blo, bhi, fa, fcap, glo, ghi, ra, rcap, lo, hi, ra2, rcap2, lo2, hi2, fun h => K0 _ _ _ (by decide) rf (nr h),
        fun h => K1 _ _ _ (by decide) rf (nr h),
        fun h => K2 _ _ _ (by decide) rf (nr h),
        fun h => K3 _ _ _ (by decide) rf (nr h),
        fun h => K4 _ _ _ (by decide) rf (nr h),
        fun h => K5 _ _ _ (by decide) rf (nr h),
        fun h => K6 _ _ _ (by decide) rf (nr h),
        fun h => K7 _ _ _ (by decide) rf (nr h),
        fun _ => ⟨eval_put_self (by rw [hz]; decide), Or.inr e5_1, Or.inr e5_2, Or.inr e5_3⟩,
        fun h => K9 _ _ _ (by decide) rf (nr h),
        fun h => K10 _ _ _ (by decide) rf (nr h),
        fun h => K11 _ rf (nr h),
        fun h => K12 _ rf (nr h),
        fun h => K13 _ _ _ (by decide) rf (nr h),
        fun h1 h2 => x0 (nr h1) (nr h2),
        fun h1 h2 => x1 (nr h1) (nr h2),
        fun h1 h2 => x2 (nr h1) (nr h2),
        fun h1 h2 => x3 (nr h1) (nr h2),
        fun h1 h2 => x4 (nr h1) (nr h2),
        fun h1 h2 => x5 (nr h1) (nr h2),
        fun h1 h2 => x6 (nr h1) (nr h2),
        fun h1 h2 => x7 (nr h1) (nr h2),
        fun h1 h2 => x8 (nr h1) (nr h2)⟩
    · obtain ⟨cs, hal, hcz⟩ := allocIC w
      refine op_alloc o9 hal ?_
      have hbw : Below w.heap.size w (w.alloc (.cells cs 28)) := (Below.refl _ _).alloc (Nat.le_refl _) _
      have hb' := below_step hb hbw (Nat.le_refl _)
      exact ⟨hf.put (by decide) _, hb', w.heap.size, Q', bg, blo, bhi, fa, fcap, glo, ghi, ra, rcap, lo, hi, ra2, rcap2, lo2, hi2, fun h => K0 _ _ _ (by decide) hbw (nr h),
        fun h => K1 _ _ _ (by decide) hbw (nr h),
        fun h => K2 _ _ _ (by decide) hbw (nr h),
        fun h => K3 _ _ _ (by decide) hbw (nr h),
        fun h => K4 _ _ _ (by decide) hbw (nr h),
        fun h => K5 _ _ _ (by decide) hbw (nr h),
        fun h => K6 _ _ _ (by decide) hbw (nr h),
        fun h => K7 _ _ _ (by decide) hbw (nr h),
        fun h => K8 _ _ _ (by decide) hbw (nr h),
        fun _ => ⟨eval_put_self (by rw [hz]; decide), hbs, ⟨cs, BoxN.new _ _ _, hcz⟩, Nat.le_of_eq (World.size_alloc _ _).symm⟩,
        fun h => K10 _ _ _ (by decide) hbw (nr h),
        fun h => by have h' := (nr h); obtain ⟨g0, g1, g2, g3, g4, g5⟩ := f11 h'; exact absurd g5 hnd,
        fun h => K12 _ hbw (nr h),
        fun h => K13 _ _ _ (by decide) hbw (nr h),
        fun h1 h2 => by have h' := (nr h1); obtain ⟨g0, g1, g2, g3⟩ := f2 h'; omega,
        fun h1 h2 => x1 (nr h1) (nr h2),
        fun h1 h2 => by have h' := (nr h1); obtain ⟨g0, g1, g2, g3, g4, g5⟩ := f3 h'; omega,
        fun h1 h2 => x3 (nr h1) (nr h2),
        fun h1 h2 => by have h' := (nr h1); obtain ⟨g0, g1, g2, g3, g4, g5, g6, g7⟩ := f4 h'; omega,
        fun h1 h2 => by have h' := (nr h1); obtain ⟨g0, g1, g2, g3, g4, g5, g6, g7⟩ := f4 h'; omega,
        fun h1 h2 => x6 (nr h1) (nr h2),
        fun h1 h2 => x7 (nr h1) (nr h2),
        fun h1 h2 => by have h' := (nr h2); obtain ⟨g0, g1, g2, g3⟩ := f10 h'; omega⟩
    · obtain ⟨cs, hal, hcz⟩ := allocIR w
      refine op_alloc o10 hal ?_
      have hbw : Below w.heap.size w (w.alloc (.cells cs 30)) := (Below.refl _ _).alloc (Nat.le_refl _) _
      have hb' := below_step hb hbw (Nat.le_refl _)
      exact ⟨hf.put (by decide) _, hb', P, w.heap.size, bg, blo, bhi, fa, fcap, glo, ghi, ra, rcap, lo, hi, ra2, rcap2, lo2, hi2, fun h => K0 _ _ _ (by decide) hbw (nr h),
        fun h => K1 _ _ _ (by decide) hbw (nr h),
        fun h => K2 _ _ _ (by decide) hbw (nr h),
        fun h => K3 _ _ _ (by decide) hbw (nr h),
        fun h => K4 _ _ _ (by decide) hbw (nr h),
        fun h => K5 _ _ _ (by decide) hbw (nr h),
        fun h => K6 _ _ _ (by decide) hbw (nr h),
        fun h => K7 _ _ _ (by decide) hbw (nr h),
        fun h => K8 _ _ _ (by decide) hbw (nr h),
        fun h => K9 _ _ _ (by decide) hbw (nr h),
        fun _ => ⟨eval_put_self (by rw [hz]; decide), hbs, ⟨cs, BoxN.new _ _ _, hcz⟩, Nat.le_of_eq (World.size_alloc _ _).symm⟩,
        fun h => K11 _ hbw (nr h),
        fun h => by have h' := (nr h); obtain ⟨g0, g1, g2, g3, g4, g5⟩ := f12 h'; exact absurd g5 hnd,
        fun h => K13 _ _ _ (by decide) hbw (nr h),
        fun h1 h2 => x0 (nr h1) (nr h2),
        fun h1 h2 => by have h' := (nr h1); obtain ⟨g0, g1, g2, g3⟩ := f2 h'; omega,
        fun h1 h2 => x2 (nr h1) (nr h2),
        fun h1 h2 => by have h' := (nr h1); obtain ⟨g0, g1, g2, g3, g4, g5⟩ := f3 h'; omega,
        fun h1 h2 => x4 (nr h1) (nr h2),
        fun h1 h2 => x5 (nr h1) (nr h2),
        fun h1 h2 => by have h' := (nr h1); obtain ⟨g0, g1, g2, g3, g4, g5, g6, g7⟩ := f4 h'; omega,
        fun h1 h2 => by have h' := (nr h1); obtain ⟨g0, g1, g2, g3, g4, g5, g6, g7⟩ := f4 h'; omega,
        fun h1 h2 => by have h' := (nr h1); obtain ⟨g0, g1, g2, g3⟩ := f9 h'; omega⟩
    · have d9 := waits u11_9 hdep
      obtain ⟨e9_0, e9_1, e9_2, e9_3⟩ := f9 d9
      have d6 := waits u11_6 hdep
      obtain ⟨e6_0, e6_1, e6_2, e6_3⟩ := f6 d6
      obtain ⟨cs, hcs, hcz⟩ := e9_2
      obtain ⟨w', hst, hnew, hsp⟩ := storeIC hcs hcz
      refine op_store o11 e9_0 e6_0 hst ?_
      have hb' := hb.trans (hsp.below e9_1 hbs)
      exact ⟨hf, hb', P, Q', bg, blo, bhi, fa, fcap, glo, ghi, ra, rcap, lo, hi, ra2, rcap2, lo2, hi2, fun h => by have h' := (nr h); have g0 := f0 h'; exact g0,
        fun h => by have h' := (nr h); have g0 := f1 h'; exact g0,
        fun h => by have h' := (nr h); have := x0 h' d9; obtain ⟨g0, g1, g2, g3⟩ := f2 h'; exact ⟨g0, (g1.span hsp (by omega)), g2, (Nat.le_trans g3 hsp.size)⟩,
        fun h => by have h' := (nr h); have := x2 h' d9; obtain ⟨g0, g1, g2, g3, g4, g5⟩ := f3 h'; exact ⟨g0, (g1.span hsp (by omega)), g2, (Nat.le_trans g3 hsp.size), g4, (Or.inr g5)⟩,
        fun h => by have h' := (nr h); have := x4 h' d9; have := x5 h' d9; obtain ⟨g0, g1, g2, g3, g4, g5, g6, g7⟩ := f4 h'; exact ⟨g0, (g1.span hsp (by omega)), (g2.span hsp (by omega)), g3, (Nat.le_trans g4 hsp.size), (Nat.le_trans g5 hsp.size), (Or.inr g6), (Or.inr g7)⟩,
        fun h => by have h' := (nr h); obtain ⟨g0, g1, g2, g3⟩ := f5 h'; exact ⟨g0, (Or.inr g1), (Or.inr g2), (Or.inr g3)⟩,
        fun h => by have h' := (nr h); obtain ⟨g0, g1, g2, g3⟩ := f6 h'; exact ⟨g0, (Or.inr g1), (Or.inr g2), (Or.inr g3)⟩,
        fun h => by have h' := (nr h); obtain ⟨g0, g1, g2, g3⟩ := f7 h'; exact ⟨g0, (Or.inr g1), (Or.inr g2), (Or.inr g3)⟩,
        fun h => by have h' := (nr h); obtain ⟨g0, g1, g2, g3⟩ := f8 h'; exact ⟨g0, (Or.inr g1), (Or.inr g2), (Or.inr g3)⟩,
        fun h => by have h' := (nr h); obtain ⟨g0, g1, g2, g3⟩ := f9 h'; exact ⟨g0, g1, ⟨_, hnew, rfl⟩, (Nat.le_trans g3 hsp.size)⟩,
        fun h => by have h' := (nr h); have := x8 d9 h'; obtain ⟨g0, g1, g2, g3⟩ := f10 h'; exact ⟨g0, g1, (by obtain ⟨cs, hcs, hcz⟩ := g2; exact ⟨cs, hcs.span hsp (by omega), hcz⟩), (Nat.le_trans g3 hsp.size)⟩,
        fun _ => ⟨hnew, e9_1, Or.inr e6_1, Or.inr e6_2, Or.inr e6_3, Or.inr d9⟩,
        fun h => by have h' := (nr h); obtain ⟨g0, g1, g2, g3, g4, g5⟩ := f12 h'; have := x8 d9 g5; exact ⟨(g0.span hsp (by omega)), g1, (Or.inr g2), (Or.inr g3), (Or.inr g4), (Or.inr g5)⟩,
        fun h => by have h' := (nr h); obtain ⟨g0, g1, g2, g3⟩ := f13 h'; exact ⟨g0, (Or.inr g1), (Or.inr g2), (Or.inr g3)⟩,
        fun h1 h2 => x0 (nr h1) (nr h2),
        fun h1 h2 => x1 (nr h1) (nr h2),
        fun h1 h2 => x2 (nr h1) (nr h2),
        fun h1 h2 => x3 (nr h1) (nr h2),
        fun h1 h2 => x4 (nr h1) (nr h2),
        fun h1 h2 => x5 (nr h1) (nr h2),
        fun h1 h2 => x6 (nr h1) (nr h2),
        fun h1 h2 => x7 (nr h1) (nr h2),
        fun h1 h2 => x8 (nr h1) (nr h2)⟩
    · have d10 := waits u12_10 hdep
      obtain ⟨e10_0, e10_1, e10_2, e10_3⟩ := f10 d10
      have d7 := waits u12_7 hdep
      obtain ⟨e7_0, e7_1, e7_2, e7_3⟩ := f7 d7
      obtain ⟨cs, hcs, hcz⟩ := e10_2
      obtain ⟨w', hst, hnew, hsp⟩ := storeIR hcs hcz
      refine op_store o12 e10_0 e7_0 hst ?_
      have hb' := hb.trans (hsp.below e10_1 hbs)
      exact ⟨hf, hb', P, Q', bg, blo, bhi, fa, fcap, glo, ghi, ra, rcap, lo, hi, ra2, rcap2, lo2, hi2, fun h => by have h' := (nr h); have g0 := f0 h'; exact g0,
        fun h => by have h' := (nr h); have g0 := f1 h'; exact g0,
        fun h => by have h' := (nr h); have := x1 h' d10; obtain ⟨g0, g1, g2, g3⟩ := f2 h'; exact ⟨g0, (g1.span hsp (by omega)), g2, (Nat.le_trans g3 hsp.size)⟩,
        fun h => by have h' := (nr h); have := x3 h' d10; obtain ⟨g0, g1, g2, g3, g4, g5⟩ := f3 h'; exact ⟨g0, (g1.span hsp (by omega)), g2, (Nat.le_trans g3 hsp.size), g4, (Or.inr g5)⟩,
        fun h => by have h' := (nr h); have := x6 h' d10; have := x7 h' d10; obtain ⟨g0, g1, g2, g3, g4, g5, g6, g7⟩ := f4 h'; exact ⟨g0, (g1.span hsp (by omega)), (g2.span hsp (by omega)), g3, (Nat.le_trans g4 hsp.size), (Nat.le_trans g5 hsp.size), (Or.inr g6), (Or.inr g7)⟩,
        fun h => by have h' := (nr h); obtain ⟨g0, g1, g2, g3⟩ := f5 h'; exact ⟨g0, (Or.inr g1), (Or.inr g2), (Or.inr g3)⟩,
        fun h => by have h' := (nr h); obtain ⟨g0, g1, g2, g3⟩ := f6 h'; exact ⟨g0, (Or.inr g1), (Or.inr g2), (Or.inr g3)⟩,
        fun h => by have h' := (nr h); obtain ⟨g0, g1, g2, g3⟩ := f7 h'; exact ⟨g0, (Or.inr g1), (Or.inr g2), (Or.inr g3)⟩,
        fun h => by have h' := (nr h); obtain ⟨g0, g1, g2, g3⟩ := f8 h'; exact ⟨g0, (Or.inr g1), (Or.inr g2), (Or.inr g3)⟩,
        fun h => by have h' := (nr h); have := x8 h' d10; obtain ⟨g0, g1, g2, g3⟩ := f9 h'; exact ⟨g0, g1, (by obtain ⟨cs, hcs, hcz⟩ := g2; exact ⟨cs, hcs.span hsp (by omega), hcz⟩), (Nat.le_trans g3 hsp.size)⟩,
        fun h => by have h' := (nr h); obtain ⟨g0, g1, g2, g3⟩ := f10 h'; exact ⟨g0, g1, ⟨_, hnew, rfl⟩, (Nat.le_trans g3 hsp.size)⟩,
        fun h => by have h' := (nr h); obtain ⟨g0, g1, g2, g3, g4, g5⟩ := f11 h'; have := x8 g5 d10; exact ⟨(g0.span hsp (by omega)), g1, (Or.inr g2), (Or.inr g3), (Or.inr g4), (Or.inr g5)⟩,
        fun _ => ⟨hnew, e10_1, Or.inr e7_1, Or.inr e7_2, Or.inr e7_3, Or.inr d10⟩,
        fun h => by have h' := (nr h); obtain ⟨g0, g1, g2, g3⟩ := f13 h'; exact ⟨g0, (Or.inr g1), (Or.inr g2), (Or.inr g3)⟩,
        fun h1 h2 => x0 (nr h1) (nr h2),
        fun h1 h2 => x1 (nr h1) (nr h2),
        fun h1 h2 => x2 (nr h1) (nr h2),
        fun h1 h2 => x3 (nr h1) (nr h2),
        fun h1 h2 => x4 (nr h1) (nr h2),
        fun h1 h2 => x5 (nr h1) (nr h2),
        fun h1 h2 => x6 (nr h1) (nr h2),
        fun h1 h2 => x7 (nr h1) (nr h2),
        fun h1 h2 => x8 (nr h1) (nr h2)⟩
    · have d8 := waits u13_8 hdep
      obtain ⟨e8_0, e8_1, e8_2, e8_3⟩ := f8 d8
      refine op_assign o13 e8_0 ?_
      exact ⟨hf.put (by decide) _, hb, P, Q', bg, blo, bhi, fa, fcap, glo, ghi, ra, rcap, lo, hi, ra2, rcap2, lo2, hi2, fun h => K0 _ _ _ (by decide) rf (nr h),
        fun h => K1 _ _ _ (by decide) rf (nr h),
        fun h => K2 _ _ _ (by decide) rf (nr h),
        fun h => K3 _ _ _ (by decide) rf (nr h),
        fun h => K4 _ _ _ (by decide) rf (nr h),
        fun h => K5 _ _ _ (by decide) rf (nr h),
        fun h => K6 _ _ _ (by decide) rf (nr h),
        fun h => K7 _ _ _ (by decide) rf (nr h),
        fun h => K8 _ _ _ (by decide) rf (nr h),
        fun h => K9 _ _ _ (by decide) rf (nr h),
        fun h => K10 _ _ _ (by decide) rf (nr h),
        fun h => K11 _ rf (nr h),
        fun h => K12 _ rf (nr h),
        fun _ => ⟨eval_put_self (by rw [hz]; decide), Or.inr e8_1, Or.inr e8_2, Or.inr e8_3⟩,
        fun h1 h2 => x0 (nr h1) (nr h2),
        fun h1 h2 => x1 (nr h1) (nr h2),
        fun h1 h2 => x2 (nr h1) (nr h2),
        fun h1 h2 => x3 (nr h1) (nr h2),
        fun h1 h2 => x4 (nr h1) (nr h2),
        fun h1 h2 => x5 (nr h1) (nr h2),
        fun h1 h2 => x6 (nr h1) (nr h2),
        fun h1 h2 => x7 (nr h1) (nr h2),
        fun h1 h2 => x8 (nr h1) (nr h2)⟩
  · intro D a w hD hI
    obtain ⟨hf, hb, P, Q', bg, blo, bhi, fa, fcap, glo, ghi, ra, rcap, lo, hi, ra2, rcap2, lo2, hi2, f0, f1, f2, f3, f4, f5, f6, f7, f8, f9, f10, f11, f12, f13, x0, x1, x2, x3, x4, x5, x6, x7, x8⟩ := hI
    rw [hn] at hD
    have e0_0 := f0 (hD 0 (by decide))
    have e1_0 := f1 (hD 1 (by decide))
    obtain ⟨e2_0, e2_1, e2_2, e2_3⟩ := f2 (hD 2 (by decide))
    obtain ⟨e3_0, e3_1, e3_2, e3_3, e3_4, e3_5⟩ := f3 (hD 3 (by decide))
    obtain ⟨e4_0, e4_1, e4_2, e4_3, e4_4, e4_5, e4_6, e4_7⟩ := f4 (hD 4 (by decide))
    obtain ⟨e5_0, e5_1, e5_2, e5_3⟩ := f5 (hD 5 (by decide))
    obtain ⟨e6_0, e6_1, e6_2, e6_3⟩ := f6 (hD 6 (by decide))
    obtain ⟨e7_0, e7_1, e7_2, e7_3⟩ := f7 (hD 7 (by decide))
    obtain ⟨e8_0, e8_1, e8_2, e8_3⟩ := f8 (hD 8 (by decide))
    obtain ⟨e9_0, e9_1, e9_2, e9_3⟩ := f9 (hD 9 (by decide))
    obtain ⟨e10_0, e10_1, e10_2, e10_3⟩ := f10 (hD 10 (by decide))
    obtain ⟨e11_0, e11_1, e11_2, e11_3, e11_4, e11_5⟩ := f11 (hD 11 (by decide))
    obtain ⟨e12_0, e12_1, e12_2, e12_3, e12_4, e12_5⟩ := f12 (hD 12 (by decide))
    obtain ⟨e13_0, e13_1, e13_2, e13_3⟩ := f13 (hD 13 (by decide))
    have y0 := x0 (hD 2 (by decide)) (hD 9 (by decide))
    have y1 := x1 (hD 2 (by decide)) (hD 10 (by decide))
    have y2 := x2 (hD 3 (by decide)) (hD 9 (by decide))
    have y3 := x3 (hD 3 (by decide)) (hD 10 (by decide))
    have y4 := x4 (hD 4 (by decide)) (hD 9 (by decide))
    have y5 := x5 (hD 4 (by decide)) (hD 9 (by decide))
    have y6 := x6 (hD 4 (by decide)) (hD 10 (by decide))
    have y7 := x7 (hD 4 (by decide)) (hD 10 (by decide))
    have y8 := x8 (hD 9 (by decide)) (hD 10 (by decide))
    have hw := hb.size
    obtain ⟨n1, n2, n3, n4, n5⟩ := e4_3
    exact hQ a w hf ⟨P, Q', ra, rcap, ra2, rcap2, lo, hi, lo2, hi2, e9_0, e10_0, e13_0, e11_0, e12_0, e4_1, e4_2, ⟨by omega, by omega, by omega, by omega, by omega, by omega, by omega, n3, n4, n5, by omega, by omega, by omega, by omega⟩, hb⟩
  · exact ⟨FrameIs.refl _ _, (Below.refl _ _).drew, 0, 0, 0, 0, 0, none, 0, 0, 0, none, 0, 0, 0, none, 0, 0, 0, fun h => False.elim h, fun h => False.elim h, fun h => False.elim h, fun h => False.elim h, fun h => False.elim h, fun h => False.elim h, fun h => False.elim h, fun h => False.elim h, fun h => False.elim h, fun h => False.elim h, fun h => False.elim h, fun h => False.elim h, fun h => False.elim h, fun h => False.elim h, fun h => False.elim h, fun h => False.elim h, fun h => False.elim h, fun h => False.elim h, fun h => False.elim h, fun h => False.elim h, fun h => False.elim h, fun h => False.elim h, fun h => False.elim h⟩

theorem pushReg12_ops (ops : Array Oper) (h : regionOps 12 (Tryz.f6.body.getD .skip) = some ops) : backward ops = true ∧ ops.size = 13 ∧ IsOp ops 0 (some 60) (.load 28 (.tmp 3)) ∧ IsOp ops 1 (some 61) (.load 30 (.tmp 4)) ∧ IsOp ops 2 (some 62) (.buildSlice 22 2 #[(0, .const (.int .u8 8)), (1, .const (.int .u8 40))]) ∧ IsOp ops 3 (some 63) (.call ⟨.value (.func 20), #[.tmp 61, .const (.int .u16 700), .tmp 62], #[30, 24, 22]⟩) ∧ IsOp ops 4 (some 64) (.call ⟨.value (.func 10), #[.tmp 60, .tmp 63], #[28, 30]⟩) ∧ IsOp ops 5 (some 59) (.move (.tmp 64)) ∧ IsOp ops 6 (some 65) (.extract (.tmp 59) 0) ∧ IsOp ops 7 (some 66) (.extract (.tmp 59) 1) ∧ IsOp ops 8 (some 67) (.extract (.tmp 59) 2) ∧ IsOp ops 9 (some 12) (.alloc 28) ∧ IsOp ops 10 none (.store 28 (.tmp 12) (.tmp 65)) ∧ IsOp ops 11 none (.store 30 (.tmp 6) (.tmp 66)) ∧ IsOp ops 12 (some 13) (.assign (.tmp 67)) ∧ Waits ops 3 1 ∧ Waits ops 3 2 ∧ Waits ops 4 0 ∧ Waits ops 4 3 ∧ Waits ops 5 4 ∧ Waits ops 6 5 ∧ Waits ops 7 5 ∧ Waits ops 8 5 ∧ Waits ops 10 9 ∧ Waits ops 10 6 ∧ Waits ops 11 7 ∧ Waits ops 12 8 := by
  obtain rfl : ops = (regionOps 12 (Tryz.f6.body.getD .skip)).getD #[] := by rw [h]; rfl
  exact ⟨by kernel_rfl, by kernel_rfl, by unfold IsOp; kernel_rfl, by unfold IsOp; kernel_rfl, by unfold IsOp; kernel_rfl, by unfold IsOp; kernel_rfl, by unfold IsOp; kernel_rfl, by unfold IsOp; kernel_rfl, by unfold IsOp; kernel_rfl, by unfold IsOp; kernel_rfl, by unfold IsOp; kernel_rfl, by unfold IsOp; kernel_rfl, by unfold IsOp; kernel_rfl, by unfold IsOp; kernel_rfl, by unfold IsOp; kernel_rfl, by unfold Waits; kernel_rfl, by unfold Waits; kernel_rfl, by unfold Waits; kernel_rfl, by unfold Waits; kernel_rfl, by unfold Waits; kernel_rfl, by unfold Waits; kernel_rfl, by unfold Waits; kernel_rfl, by unfold Waits; kernel_rfl, by unfold Waits; kernel_rfl, by unfold Waits; kernel_rfl, by unfold Waits; kernel_rfl, by unfold Waits; kernel_rfl⟩

abbrev pushReg12_I (c : CpuN) (r : CpuN × BusN) (sa : Option Addr) (n cap : Nat) (F : List Nat) (S : Nat) (V : World) (a0 : Act) (D : Nat → Prop) (a : Act) (w : World) : Prop :=
  FrameIs a0 [12, 13, 59, 60, 61, 62, 63, 64, 65, 66, 67] a ∧ Span S (S + 1) V w ∧ ∃ (P : Nat) (bg : Nat) (blo : Nat) (bhi : Nat) (fa : Option Addr) (fcap : Nat) (glo : Nat) (ghi : Nat) (ra : Option Addr) (rcap : Nat) (lo : Nat) (hi : Nat) (ra2 : Option Addr) (rcap2 : Nat) (lo2 : Nat) (hi2 : Nat), (D 0 → a.eval (.tmp 60) = cpuV c) ∧ (D 1 → a.eval (.tmp 61) = ramV (.slice sa n cap)) ∧ (D 2 → a.eval (.tmp 62) = .slice (some ⟨bg, 0, none⟩) 2 2 ∧ SegB w blo bhi (.slice (some ⟨bg, 0, none⟩) 2 2) ([8, 40]) ∧ (V.heap.size ≤ blo) ∧ bhi ≤ w.heap.size) ∧ (D 3 → a.eval (.tmp 63) = ramV (.slice fa F.length fcap) ∧ SegB w glo ghi (.slice fa F.length fcap) (F) ∧ (V.heap.size ≤ glo) ∧ ghi ≤ w.heap.size ∧ (F.length ≤ fcap) ∧ D 2) ∧ (D 4 → a.eval (.tmp 64) = .tuple #[cpuV r.1, ramV (.slice ra r.2.mem.length rcap), .slice ra2 r.2.log.length rcap2] ∧ SegB w lo hi (.slice ra r.2.mem.length rcap) (r.2.mem) ∧ SegC w lo2 hi2 (.slice ra2 r.2.log.length rcap2) (r.2.log) ∧ (V.heap.size ≤ lo ∧ V.heap.size ≤ lo2 ∧ lo ≤ hi ∧ lo2 ≤ hi2 ∧ (hi ≤ lo2 ∨ hi2 ≤ lo)) ∧ hi ≤ w.heap.size ∧ hi2 ≤ w.heap.size ∧ D 2 ∧ D 3) ∧ (D 5 → a.eval (.tmp 59) = .tuple #[cpuV r.1, ramV (.slice ra r.2.mem.length rcap), .slice ra2 r.2.log.length rcap2] ∧ D 2 ∧ D 3 ∧ D 4) ∧ (D 6 → a.eval (.tmp 65) = cpuV r.1 ∧ D 2 ∧ D 3 ∧ D 4) ∧ (D 7 → a.eval (.tmp 66) = ramV (.slice ra r.2.mem.length rcap) ∧ D 2 ∧ D 3 ∧ D 4) ∧ (D 8 → a.eval (.tmp 67) = .slice ra2 r.2.log.length rcap2 ∧ D 2 ∧ D 3 ∧ D 4) ∧ (D 9 → a.eval (.tmp 12) = .pointer (some ⟨P, 0, none⟩) ∧ (V.heap.size ≤ P) ∧ (∃ cs : Array Value, BoxN w P 28 cs ∧ cs.size = 11) ∧ P + 1 ≤ w.heap.size) ∧ (D 10 → BoxN w P 28 (cpuCells r.1) ∧ (V.heap.size ≤ P) ∧ D 2 ∧ D 3 ∧ D 4 ∧ D 9) ∧ (D 11 → BoxN w S 30 #[.slice ra r.2.mem.length rcap] ∧ D 2 ∧ D 3 ∧ D 4) ∧ (D 12 → a.eval (.tmp 13) = .slice ra2 r.2.log.length rcap2 ∧ D 2 ∧ D 3 ∧ D 4) ∧ (D 2 → D 9 → (bhi ≤ P ∨ P + 1 ≤ blo)) ∧ (D 3 → D 9 → (ghi ≤ P ∨ P + 1 ≤ glo)) ∧ (D 4 → D 9 → (hi ≤ P ∨ P + 1 ≤ lo)) ∧ (D 4 → D 9 → (hi2 ≤ P ∨ P + 1 ≤ lo2)) ∧ (∃ cs : Array Value, BoxN w S 30 cs ∧ cs.size = 1)

set_option maxRecDepth 100000 in
set_option maxHeartbeats 4000000 in
theorem pushReg12 (c : CpuN) (r : CpuN × BusN) (sa : Option Addr) (n cap : Nat) (F L : List Nat) (sv : Value) (S : Nat) (V : World) (C R : Nat) (hC : BoxN V C 28 (cpuCells c)) (hR : BoxN V R 30 #[.slice sa n cap]) (hrow : RowB V sa L) (hS : BoxN V S 30 #[sv]) (hCS : C < S ∨ S + 1 ≤ C) (hRS : R < S ∨ S + 1 ≤ R) (hrow' : ∀ w, Span S (S + 1) V w → RowB w sa L) (HFL : ∀ (g : Nat) (W : World), RowB W sa L → RowB W (some ⟨g, 0, none⟩) [8, 40] → Calls Tryz.prog 20 #[ramV (.slice sa n cap), .int .u16 700, .slice (some ⟨g, 0, none⟩) 2 2] W fun e w' => ∃ v, e = .returned (ramV v) ∧ OwnB w' W.heap.size v F ∧ Below W.heap.size W w') (HS : ∀ (fa : Option Addr) (fcap : Nat) (W : World), F.length ≤ fcap → RowB W fa F → Calls Tryz.prog 10 #[cpuV c, ramV (.slice fa F.length fcap)] W (Stepped W r)) (a0 : Act) (h2 : a0.eval (.tmp 3) = .pointer (some ⟨C, 0, none⟩)) (h3 : a0.eval (.tmp 4) = .pointer (some ⟨R, 0, none⟩)) (h5 : a0.eval (.tmp 6) = .pointer (some ⟨S, 0, none⟩)) (hsz : a0.tmps.size = 101) (Q : Exit → Act → World → Prop)
    (hQ : ∀ a w, FrameIs a0 [12, 13, 59, 60, 61, 62, 63, 64, 65, 66, 67] a → TookS V r S (a.eval (.tmp 12)) (a.eval (.tmp 13)) w → Q .normal a w)
    (ops : Array Oper) (hops : regionOps 12 (Tryz.f6.body.getD .skip) = some ops) (id : Nat) : (Code.region id ops true).wp Tryz.prog Q a0 V := by
  obtain ⟨hbk, hn, o0, o1, o2, o3, o4, o5, o6, o7, o8, o9, o10, o11, o12, u3_1, u3_2, u4_0, u4_3, u5_4, u6_5, u7_5, u8_5, u10_9, u10_6, u11_7, u12_8⟩ := pushReg12_ops ops hops
  clear hops
  refine wp_region_facts (by kernel_rfl) hbk (pushReg12_I c r sa n cap F S V a0) ?_ ?_ id a0 V ?_
  · intro i hin D a w hnd hdep hI
    obtain ⟨hf, hb, P, bg, blo, bhi, fa, fcap, glo, ghi, ra, rcap, lo, hi, ra2, rcap2, lo2, hi2, f0, f1, f2, f3, f4, f5, f6, f7, f8, f9, f10, f11, f12, x0, x1, x2, x3, pm⟩ := hI
    rw [hn] at hin
    have hz : a.tmps.size = 101 := hf.size.trans hsz
    have hbs := hb.size
    have hSl := hS.lt
    have rf := Below.refl w.heap.size w
    have K0 : ∀ (d : Nat) (v : Value) (w' : World), 60 ≠ d → Below w.heap.size w w' → D 0 → (a.put (some d) v).eval (.tmp 60) = cpuV c := fun d v w' hd hbw h => by have g0 := f0 h; exact ((eval_put_ne hd).trans g0)
    have K1 : ∀ (d : Nat) (v : Value) (w' : World), 61 ≠ d → Below w.heap.size w w' → D 1 → (a.put (some d) v).eval (.tmp 61) = ramV (.slice sa n cap) := fun d v w' hd hbw h => by have g0 := f1 h; exact ((eval_put_ne hd).trans g0)
    have K2 : ∀ (d : Nat) (v : Value) (w' : World), 62 ≠ d → Below w.heap.size w w' → D 2 → (a.put (some d) v).eval (.tmp 62) = .slice (some ⟨bg, 0, none⟩) 2 2 ∧ SegB w' blo bhi (.slice (some ⟨bg, 0, none⟩) 2 2) ([8, 40]) ∧ (V.heap.size ≤ blo) ∧ bhi ≤ w'.heap.size := fun d v w' hd hbw h => by obtain ⟨g0, g1, g2, g3⟩ := f2 h; exact ⟨((eval_put_ne hd).trans g0), (g1.below hbw), g2, (Nat.le_trans g3 hbw.size)⟩
    have K3 : ∀ (d : Nat) (v : Value) (w' : World), 63 ≠ d → Below w.heap.size w w' → D 3 → (a.put (some d) v).eval (.tmp 63) = ramV (.slice fa F.length fcap) ∧ SegB w' glo ghi (.slice fa F.length fcap) (F) ∧ (V.heap.size ≤ glo) ∧ ghi ≤ w'.heap.size ∧ (F.length ≤ fcap) ∧ (2 = i ∨ D 2) := fun d v w' hd hbw h => by obtain ⟨g0, g1, g2, g3, g4, g5⟩ := f3 h; exact ⟨((eval_put_ne hd).trans g0), (g1.below hbw), g2, (Nat.le_trans g3 hbw.size), g4, (Or.inr g5)⟩
    have K4 : ∀ (d : Nat) (v : Value) (w' : World), 64 ≠ d → Below w.heap.size w w' → D 4 → (a.put (some d) v).eval (.tmp 64) = .tuple #[cpuV r.1, ramV (.slice ra r.2.mem.length rcap), .slice ra2 r.2.log.length rcap2] ∧ SegB w' lo hi (.slice ra r.2.mem.length rcap) (r.2.mem) ∧ SegC w' lo2 hi2 (.slice ra2 r.2.log.length rcap2) (r.2.log) ∧ (V.heap.size ≤ lo ∧ V.heap.size ≤ lo2 ∧ lo ≤ hi ∧ lo2 ≤ hi2 ∧ (hi ≤ lo2 ∨ hi2 ≤ lo)) ∧ hi ≤ w'.heap.size ∧ hi2 ≤ w'.heap.size ∧ (2 = i ∨ D 2) ∧ (3 = i ∨ D 3) := fun d v w' hd hbw h => by obtain ⟨g0, g1, g2, g3, g4, g5, g6, g7⟩ := f4 h; exact ⟨((eval_put_ne hd).trans g0), (g1.below hbw), (g2.below hbw), g3, (Nat.le_trans g4 hbw.size), (Nat.le_trans g5 hbw.size), (Or.inr g6), (Or.inr g7)⟩
    have K5 : ∀ (d : Nat) (v : Value) (w' : World), 59 ≠ d → Below w.heap.size w w' → D 5 → (a.put (some d) v).eval (.tmp 59) = .tuple #[cpuV r.1, ramV (.slice ra r.2.mem.length rcap), .slice ra2 r.2.log.length rcap2] ∧ (2 = i ∨ D 2) ∧ (3 = i ∨ D 3) ∧ (4 = i ∨ D 4) := fun d v w' hd hbw h => by obtain ⟨g0, g1, g2, g3⟩ := f5 h; exact ⟨((eval_put_ne hd).trans g0), (Or.inr g1), (Or.inr g2), (Or.inr g3)⟩
    have K6 : ∀ (d : Nat) (v : Value) (w' : World), 65 ≠ d → Below w.heap.size w w' → D 6 → (a.put (some d) v).eval (.tmp 65) = cpuV r.1 ∧ (2 = i ∨ D 2) ∧ (3 = i ∨ D 3) ∧ (4 = i ∨ D 4) := fun d v w' hd hbw h => by obtain ⟨g0, g1, g2, g3⟩ := f6 h; exact ⟨((eval_put_ne hd).trans g0), (Or.inr g1), (Or.inr g2), (Or.inr g3)⟩
    have K7 : ∀ (d : Nat) (v : Value) (w' : World), 66 ≠ d → Below w.heap.size w w' → D 7 → (a.put (some d) v).eval (.tmp 66) = ramV (.slice ra r.2.mem.length rcap) ∧ (2 = i ∨ D 2) ∧ (3 = i ∨ D 3) ∧ (4 = i ∨ D 4) := fun d v w' hd hbw h => by obtain ⟨g0, g1, g2, g3⟩ := f7 h; exact ⟨((eval_put_ne hd).trans g0), (Or.inr g1), (Or.inr g2), (Or.inr g3)⟩
    have K8 : ∀ (d : Nat) (v : Value) (w' : World), 67 ≠ d → Below w.heap.size w w' → D 8 → (a.put (some d) v).eval (.tmp 67) = .slice ra2 r.2.log.length rcap2 ∧ (2 = i ∨ D 2) ∧ (3 = i ∨ D 3) ∧ (4 = i ∨ D 4) := fun d v w' hd hbw h => by obtain ⟨g0, g1, g2, g3⟩ := f8 h; exact ⟨((eval_put_ne hd).trans g0), (Or.inr g1), (Or.inr g2), (Or.inr g3)⟩
    have K9 : ∀ (d : Nat) (v : Value) (w' : World), 12 ≠ d → Below w.heap.size w w' → D 9 → (a.put (some d) v).eval (.tmp 12) = .pointer (some ⟨P, 0, none⟩) ∧ (V.heap.size ≤ P) ∧ (∃ cs : Array Value, BoxN w' P 28 cs ∧ cs.size = 11) ∧ P + 1 ≤ w'.heap.size := fun d v w' hd hbw h => by obtain ⟨g0, g1, g2, g3⟩ := f9 h; exact ⟨((eval_put_ne hd).trans g0), g1, (by obtain ⟨cs, hcs, hcz⟩ := g2; exact ⟨cs, hcs.below hbw, hcz⟩), (Nat.le_trans g3 hbw.size)⟩
    have K10 : ∀ (w' : World), Below w.heap.size w w' → D 10 → BoxN w' P 28 (cpuCells r.1) ∧ (V.heap.size ≤ P) ∧ (2 = i ∨ D 2) ∧ (3 = i ∨ D 3) ∧ (4 = i ∨ D 4) ∧ (9 = i ∨ D 9) := fun w' hbw h => by obtain ⟨g0, g1, g2, g3, g4, g5⟩ := f10 h; exact ⟨(g0.below hbw), g1, (Or.inr g2), (Or.inr g3), (Or.inr g4), (Or.inr g5)⟩
    have K11 : ∀ (w' : World), Below w.heap.size w w' → D 11 → BoxN w' S 30 #[.slice ra r.2.mem.length rcap] ∧ (2 = i ∨ D 2) ∧ (3 = i ∨ D 3) ∧ (4 = i ∨ D 4) := fun w' hbw h => by obtain ⟨g0, g1, g2, g3⟩ := f11 h; exact ⟨(g0.below hbw), (Or.inr g1), (Or.inr g2), (Or.inr g3)⟩
    have K12 : ∀ (d : Nat) (v : Value) (w' : World), 13 ≠ d → Below w.heap.size w w' → D 12 → (a.put (some d) v).eval (.tmp 13) = .slice ra2 r.2.log.length rcap2 ∧ (2 = i ∨ D 2) ∧ (3 = i ∨ D 3) ∧ (4 = i ∨ D 4) := fun d v w' hd hbw h => by obtain ⟨g0, g1, g2, g3⟩ := f12 h; exact ⟨((eval_put_ne hd).trans g0), (Or.inr g1), (Or.inr g2), (Or.inr g3)⟩
    obtain (rfl | rfl | rfl | rfl | rfl | rfl | rfl | rfl | rfl | rfl | rfl | rfl | rfl) : i = 0 ∨ i = 1 ∨ i = 2 ∨ i = 3 ∨ i = 4 ∨ i = 5 ∨ i = 6 ∨ i = 7 ∨ i = 8 ∨ i = 9 ∨ i = 10 ∨ i = 11 ∨ i = 12 := by omega
    · refine op_load o0 ((hf.eval (by decide)).trans h2) (loadIC (hC.span hb hCS)) ?_
      exact ⟨hf.put (by decide) _, hb, P, bg, blo, bhi, fa, fcap, glo, ghi, ra, rcap, lo, hi, ra2, rcap2, lo2, hi2, fun _ => eval_put_self (by rw [hz]; decide),
        fun h => K1 _ _ _ (by decide) rf (nr h),
        fun h => K2 _ _ _ (by decide) rf (nr h),
        fun h => K3 _ _ _ (by decide) rf (nr h),
        fun h => K4 _ _ _ (by decide) rf (nr h),
        fun h => K5 _ _ _ (by decide) rf (nr h),
        fun h => K6 _ _ _ (by decide) rf (nr h),
        fun h => K7 _ _ _ (by decide) rf (nr h),
        fun h => K8 _ _ _ (by decide) rf (nr h),
        fun h => K9 _ _ _ (by decide) rf (nr h),
        fun h => K10 _ rf (nr h),
        fun h => K11 _ rf (nr h),
        fun h => K12 _ _ _ (by decide) rf (nr h),
        fun h1 h2 => x0 (nr h1) (nr h2),
        fun h1 h2 => x1 (nr h1) (nr h2),
        fun h1 h2 => x2 (nr h1) (nr h2),
        fun h1 h2 => x3 (nr h1) (nr h2),
        pm⟩
    · refine op_load o1 ((hf.eval (by decide)).trans h3) (loadIR (hR.span hb hRS)) ?_
      exact ⟨hf.put (by decide) _, hb, P, bg, blo, bhi, fa, fcap, glo, ghi, ra, rcap, lo, hi, ra2, rcap2, lo2, hi2, fun h => K0 _ _ _ (by decide) rf (nr h),
        fun _ => eval_put_self (by rw [hz]; decide),
        fun h => K2 _ _ _ (by decide) rf (nr h),
        fun h => K3 _ _ _ (by decide) rf (nr h),
        fun h => K4 _ _ _ (by decide) rf (nr h),
        fun h => K5 _ _ _ (by decide) rf (nr h),
        fun h => K6 _ _ _ (by decide) rf (nr h),
        fun h => K7 _ _ _ (by decide) rf (nr h),
        fun h => K8 _ _ _ (by decide) rf (nr h),
        fun h => K9 _ _ _ (by decide) rf (nr h),
        fun h => K10 _ rf (nr h),
        fun h => K11 _ rf (nr h),
        fun h => K12 _ _ _ (by decide) rf (nr h),
        fun h1 h2 => x0 (nr h1) (nr h2),
        fun h1 h2 => x1 (nr h1) (nr h2),
        fun h1 h2 => x2 (nr h1) (nr h2),
        fun h1 h2 => x3 (nr h1) (nr h2),
        pm⟩
    · refine op_bytes (v := .slice (some ⟨w.heap.size, 0, none⟩) 2 2) (w' := w.alloc (.cells #[.int .u8 8, .int .u8 40] 5)) o2 (by simp [go_sem]) ?_
      have hbw := alw w (.cells #[.int .u8 8, .int .u8 40] 5)
      have hb' := hb.trans (Span.of_below _ _ hbw)
      have hnb : SegB (w.alloc (.cells #[.int .u8 8, .int .u8 40] 5)) w.heap.size (w.heap.size + 1) (.slice (some ⟨w.heap.size, 0, none⟩) 2 2) [8, 40] := bytesNew w _ (by decide) (by decide)
      exact ⟨hf.put (by decide) _, hb', P, w.heap.size, w.heap.size, (w.heap.size + 1), fa, fcap, glo, ghi, ra, rcap, lo, hi, ra2, rcap2, lo2, hi2, fun h => K0 _ _ _ (by decide) hbw (nr h),
        fun h => K1 _ _ _ (by decide) hbw (nr h),
        fun _ => ⟨eval_put_self (by rw [hz]; decide), hnb, hbs, Nat.le_of_eq (World.size_alloc _ _).symm⟩,
        fun h => by have h' := (nr h); obtain ⟨g0, g1, g2, g3, g4, g5⟩ := f3 h'; exact absurd g5 hnd,
        fun h => by have h' := (nr h); obtain ⟨g0, g1, g2, g3, g4, g5, g6, g7⟩ := f4 h'; exact absurd g6 hnd,
        fun h => by have h' := (nr h); obtain ⟨g0, g1, g2, g3⟩ := f5 h'; exact absurd g1 hnd,
        fun h => by have h' := (nr h); obtain ⟨g0, g1, g2, g3⟩ := f6 h'; exact absurd g1 hnd,
        fun h => by have h' := (nr h); obtain ⟨g0, g1, g2, g3⟩ := f7 h'; exact absurd g1 hnd,
        fun h => by have h' := (nr h); obtain ⟨g0, g1, g2, g3⟩ := f8 h'; exact absurd g1 hnd,
        fun h => K9 _ _ _ (by decide) hbw (nr h),
        fun h => by have h' := (nr h); obtain ⟨g0, g1, g2, g3, g4, g5⟩ := f10 h'; exact absurd g2 hnd,
        fun h => by have h' := (nr h); obtain ⟨g0, g1, g2, g3⟩ := f11 h'; exact absurd g1 hnd,
        fun h => by have h' := (nr h); obtain ⟨g0, g1, g2, g3⟩ := f12 h'; exact absurd g1 hnd,
        fun h1 h2 => by have h' := (nr h2); obtain ⟨g0, g1, g2, g3⟩ := f9 h'; omega,
        fun h1 h2 => x1 (nr h1) (nr h2),
        fun h1 h2 => x2 (nr h1) (nr h2),
        fun h1 h2 => x3 (nr h1) (nr h2),
        by obtain ⟨cs, hcs, hcz⟩ := pm; exact ⟨cs, hcs.below hbw, hcz⟩⟩
    · have d1 := waits u3_1 hdep
      have e1_0 := f1 d1
      have d2 := waits u3_2 hdep
      obtain ⟨e2_0, e2_1, e2_2, e2_3⟩ := f2 d2
      refine op_call o3 (by simp only [List.map_toArray, List.map_cons, List.map_nil, eval_const, e1_0, e2_0]) rfl ((HFL bg w (hrow' w hb) e2_1.row).mono ?_)
      rintro e w' ⟨v, rfl, om, hbw⟩
      have hbz := hbw.size
      have hsb := SegB.of om
      obtain ⟨fa', fcap', rfl, hfc⟩ := hsb.len
      have hb' := hb.trans (Span.of_below _ _ hbw)
      refine ⟨_, rfl, ?_⟩
      exact ⟨hf.put (by decide) _, hb', P, bg, blo, bhi, fa', fcap', w.heap.size, w'.heap.size, ra, rcap, lo, hi, ra2, rcap2, lo2, hi2, fun h => K0 _ _ _ (by decide) hbw (nr h),
        fun h => K1 _ _ _ (by decide) hbw (nr h),
        fun h => K2 _ _ _ (by decide) hbw (nr h),
        fun _ => ⟨eval_put_self (by rw [hz]; decide), hsb, hbs, Nat.le_refl _, hfc, Or.inr d2⟩,
        fun h => by have h' := (nr h); obtain ⟨g0, g1, g2, g3, g4, g5, g6, g7⟩ := f4 h'; exact absurd g7 hnd,
        fun h => by have h' := (nr h); obtain ⟨g0, g1, g2, g3⟩ := f5 h'; exact absurd g2 hnd,
        fun h => by have h' := (nr h); obtain ⟨g0, g1, g2, g3⟩ := f6 h'; exact absurd g2 hnd,
        fun h => by have h' := (nr h); obtain ⟨g0, g1, g2, g3⟩ := f7 h'; exact absurd g2 hnd,
        fun h => by have h' := (nr h); obtain ⟨g0, g1, g2, g3⟩ := f8 h'; exact absurd g2 hnd,
        fun h => K9 _ _ _ (by decide) hbw (nr h),
        fun h => by have h' := (nr h); obtain ⟨g0, g1, g2, g3, g4, g5⟩ := f10 h'; exact absurd g3 hnd,
        fun h => by have h' := (nr h); obtain ⟨g0, g1, g2, g3⟩ := f11 h'; exact absurd g2 hnd,
        fun h => by have h' := (nr h); obtain ⟨g0, g1, g2, g3⟩ := f12 h'; exact absurd g2 hnd,
        fun h1 h2 => x0 (nr h1) (nr h2),
        fun h1 h2 => by have h' := (nr h2); obtain ⟨g0, g1, g2, g3⟩ := f9 h'; omega,
        fun h1 h2 => x2 (nr h1) (nr h2),
        fun h1 h2 => x3 (nr h1) (nr h2),
        by obtain ⟨cs, hcs, hcz⟩ := pm; exact ⟨cs, hcs.below hbw, hcz⟩⟩
    · have d0 := waits u4_0 hdep
      have e0_0 := f0 d0
      have d3 := waits u4_3 hdep
      obtain ⟨e3_0, e3_1, e3_2, e3_3, e3_4, e3_5⟩ := f3 d3
      refine op_call o4 (by simp only [List.map_toArray, List.map_cons, List.map_nil, eval_const, e0_0, e3_0]) rfl ((HS fa fcap w e3_4 e3_1.row).mono ?_)
      rintro e w' hst
      obtain ⟨ya, ycap, ya2, ycap2, ylo, yhi, ylo2, yhi2, rfl, sm, sc, ⟨q1, q2, q3, q4, q5, q6, q7⟩, hbw⟩ := hst.three
      have hbz := hbw.size
      have hb' := hb.trans (Span.of_below _ _ hbw)
      refine ⟨_, rfl, ?_⟩
      exact ⟨hf.put (by decide) _, hb', P, bg, blo, bhi, fa, fcap, glo, ghi, ya, ycap, ylo, yhi, ya2, ycap2, ylo2, yhi2, fun h => K0 _ _ _ (by decide) hbw (nr h),
        fun h => K1 _ _ _ (by decide) hbw (nr h),
        fun h => K2 _ _ _ (by decide) hbw (nr h),
        fun h => K3 _ _ _ (by decide) hbw (nr h),
        fun _ => ⟨eval_put_self (by rw [hz]; decide), sm, sc, ⟨by omega, by omega, q5, q6, q7⟩, q2, q4, Or.inr e3_5, Or.inr d3⟩,
        fun h => by have h' := (nr h); obtain ⟨g0, g1, g2, g3⟩ := f5 h'; exact absurd g3 hnd,
        fun h => by have h' := (nr h); obtain ⟨g0, g1, g2, g3⟩ := f6 h'; exact absurd g3 hnd,
        fun h => by have h' := (nr h); obtain ⟨g0, g1, g2, g3⟩ := f7 h'; exact absurd g3 hnd,
        fun h => by have h' := (nr h); obtain ⟨g0, g1, g2, g3⟩ := f8 h'; exact absurd g3 hnd,
        fun h => K9 _ _ _ (by decide) hbw (nr h),
        fun h => by have h' := (nr h); obtain ⟨g0, g1, g2, g3, g4, g5⟩ := f10 h'; exact absurd g4 hnd,
        fun h => by have h' := (nr h); obtain ⟨g0, g1, g2, g3⟩ := f11 h'; exact absurd g3 hnd,
        fun h => by have h' := (nr h); obtain ⟨g0, g1, g2, g3⟩ := f12 h'; exact absurd g3 hnd,
        fun h1 h2 => x0 (nr h1) (nr h2),
        fun h1 h2 => x1 (nr h1) (nr h2),
        fun h1 h2 => by have h' := (nr h2); obtain ⟨g0, g1, g2, g3⟩ := f9 h'; omega,
        fun h1 h2 => by have h' := (nr h2); obtain ⟨g0, g1, g2, g3⟩ := f9 h'; omega,
        by obtain ⟨cs, hcs, hcz⟩ := pm; exact ⟨cs, hcs.below hbw, hcz⟩⟩
    · have d4 := waits u5_4 hdep
      obtain ⟨e4_0, e4_1, e4_2, e4_3, e4_4, e4_5, e4_6, e4_7⟩ := f4 d4
      refine op_move o5 e4_0 ?_
      exact ⟨hf.put (by decide) _, hb, P, bg, blo, bhi, fa, fcap, glo, ghi, ra, rcap, lo, hi, ra2, rcap2, lo2, hi2, fun h => K0 _ _ _ (by decide) rf (nr h),
        fun h => K1 _ _ _ (by decide) rf (nr h),
        fun h => K2 _ _ _ (by decide) rf (nr h),
        fun h => K3 _ _ _ (by decide) rf (nr h),
        fun h => K4 _ _ _ (by decide) rf (nr h),
        fun _ => ⟨eval_put_self (by rw [hz]; decide), Or.inr e4_6, Or.inr e4_7, Or.inr d4⟩,
        fun h => K6 _ _ _ (by decide) rf (nr h),
        fun h => K7 _ _ _ (by decide) rf (nr h),
        fun h => K8 _ _ _ (by decide) rf (nr h),
        fun h => K9 _ _ _ (by decide) rf (nr h),
        fun h => K10 _ rf (nr h),
        fun h => K11 _ rf (nr h),
        fun h => K12 _ _ _ (by decide) rf (nr h),
        fun h1 h2 => x0 (nr h1) (nr h2),
        fun h1 h2 => x1 (nr h1) (nr h2),
        fun h1 h2 => x2 (nr h1) (nr h2),
        fun h1 h2 => x3 (nr h1) (nr h2),
        pm⟩
    · have d5 := waits u6_5 hdep
      obtain ⟨e5_0, e5_1, e5_2, e5_3⟩ := f5 d5
      refine op_extract o6 e5_0 (by rfl) ?_
      exact ⟨hf.put (by decide) _, hb, P, bg, blo, bhi, fa, fcap, glo, ghi, ra, rcap, lo, hi, ra2, rcap2, lo2, hi2, fun h => K0 _ _ _ (by decide) rf (nr h),
        fun h => K1 _ _ _ (by decide) rf (nr h),
        fun h => K2 _ _ _ (by decide) rf (nr h),
        fun h => K3 _ _ _ (by decide) rf (nr h),
        fun h => K4 _ _ _ (by decide) rf (nr h),
        fun h => K5 _ _ _ (by decide) rf (nr h),
        fun _ => ⟨eval_put_self (by rw [hz]; decide), Or.inr e5_1, Or.inr e5_2, Or.inr e5_3⟩,
        fun h => K7 _ _ _ (by decide) rf (nr h),
        fun h => K8 _ _ _ (by decide) rf (nr h),
        fun h => K9 _ _ _ (by decide) rf (nr h),
        fun h => K10 _ rf (nr h),
        fun h => K11 _ rf (nr h),
        fun h => K12 _ _ _ (by decide) rf (nr h),
        fun h1 h2 => x0 (nr h1) (nr h2),
        fun h1 h2 => x1 (nr h1) (nr h2),
        fun h1 h2 => x2 (nr h1) (nr h2),
        fun h1 h2 => x3 (nr h1) (nr h2),
        pm⟩
    · have d5 := waits u7_5 hdep
      obtain ⟨e5_0, e5_1, e5_2, e5_3⟩ := f5 d5
      refine op_extract o7 e5_0 (by rfl) ?_
      exact ⟨hf.put (by decide) _, hb, P, bg, blo, bhi, fa, fcap, glo, ghi, ra, rcap, lo, hi, ra2, rcap2, lo2, hi2, fun h => K0 _ _ _ (by decide) rf (nr h),
        fun h => K1 _ _ _ (by decide) rf (nr h),
        fun h => K2 _ _ _ (by decide) rf (nr h),
        fun h => K3 _ _ _ (by decide) rf (nr h),
        fun h => K4 _ _ _ (by decide) rf (nr h),
        fun h => K5 _ _ _ (by decide) rf (nr h),
        fun h => K6 _ _ _ (by decide) rf (nr h),
        fun _ => ⟨eval_put_self (by rw [hz]; decide), Or.inr e5_1, Or.inr e5_2, Or.inr e5_3⟩,
        fun h => K8 _ _ _ (by decide) rf (nr h),
        fun h => K9 _ _ _ (by decide) rf (nr h),
        fun h => K10 _ rf (nr h),
        fun h => K11 _ rf (nr h),
        fun h => K12 _ _ _ (by decide) rf (nr h),
        fun h1 h2 => x0 (nr h1) (nr h2),
        fun h1 h2 => x1 (nr h1) (nr h2),
        fun h1 h2 => x2 (nr h1) (nr h2),
        fun h1 h2 => x3 (nr h1) (nr h2),
        pm⟩
    · have d5 := waits u8_5 hdep
      obtain ⟨e5_0, e5_1, e5_2, e5_3⟩ := f5 d5
      refine op_extract o8 e5_0 (by rfl) ?_
      exact ⟨hf.put (by decide) _, hb, P, bg, blo, bhi, fa, fcap, glo, ghi, ra, rcap, lo, hi, ra2, rcap2, lo2, hi2, fun h => K0 _ _ _ (by decide) rf (nr h),
        fun h => K1 _ _ _ (by decide) rf (nr h),
        fun h => K2 _ _ _ (by decide) rf (nr h),
        fun h => K3 _ _ _ (by decide) rf (nr h),
        fun h => K4 _ _ _ (by decide) rf (nr h),
        fun h => K5 _ _ _ (by decide) rf (nr h),
        fun h => K6 _ _ _ (by decide) rf (nr h),
        fun h => K7 _ _ _ (by decide) rf (nr h),
        fun _ => ⟨eval_put_self (by rw [hz]; decide), Or.inr e5_1, Or.inr e5_2, Or.inr e5_3⟩,
        fun h => K9 _ _ _ (by decide) rf (nr h),
        fun h => K10 _ rf (nr h),
        fun h => K11 _ rf (nr h),
        fun h => K12 _ _ _ (by decide) rf (nr h),
        fun h1 h2 => x0 (nr h1) (nr h2),
        fun h1 h2 => x1 (nr h1) (nr h2),
        fun h1 h2 => x2 (nr h1) (nr h2),
        fun h1 h2 => x3 (nr h1) (nr h2),
        pm⟩
    · obtain ⟨cs, hal, hcz⟩ := allocIC w
      refine op_alloc o9 hal ?_
      have hbw : Below w.heap.size w (w.alloc (.cells cs 28)) := (Below.refl _ _).alloc (Nat.le_refl _) _
      have hb' := hb.trans (Span.of_below _ _ hbw)
      exact ⟨hf.put (by decide) _, hb', w.heap.size, bg, blo, bhi, fa, fcap, glo, ghi, ra, rcap, lo, hi, ra2, rcap2, lo2, hi2, fun h => K0 _ _ _ (by decide) hbw (nr h),
        fun h => K1 _ _ _ (by decide) hbw (nr h),
        fun h => K2 _ _ _ (by decide) hbw (nr h),
        fun h => K3 _ _ _ (by decide) hbw (nr h),
        fun h => K4 _ _ _ (by decide) hbw (nr h),
        fun h => K5 _ _ _ (by decide) hbw (nr h),
        fun h => K6 _ _ _ (by decide) hbw (nr h),
        fun h => K7 _ _ _ (by decide) hbw (nr h),
        fun h => K8 _ _ _ (by decide) hbw (nr h),
        fun _ => ⟨eval_put_self (by rw [hz]; decide), hbs, ⟨cs, BoxN.new _ _ _, hcz⟩, Nat.le_of_eq (World.size_alloc _ _).symm⟩,
        fun h => by have h' := (nr h); obtain ⟨g0, g1, g2, g3, g4, g5⟩ := f10 h'; exact absurd g5 hnd,
        fun h => K11 _ hbw (nr h),
        fun h => K12 _ _ _ (by decide) hbw (nr h),
        fun h1 h2 => by have h' := (nr h1); obtain ⟨g0, g1, g2, g3⟩ := f2 h'; omega,
        fun h1 h2 => by have h' := (nr h1); obtain ⟨g0, g1, g2, g3, g4, g5⟩ := f3 h'; omega,
        fun h1 h2 => by have h' := (nr h1); obtain ⟨g0, g1, g2, g3, g4, g5, g6, g7⟩ := f4 h'; omega,
        fun h1 h2 => by have h' := (nr h1); obtain ⟨g0, g1, g2, g3, g4, g5, g6, g7⟩ := f4 h'; omega,
        by obtain ⟨cs, hcs, hcz⟩ := pm; exact ⟨cs, hcs.below hbw, hcz⟩⟩
    · have d9 := waits u10_9 hdep
      obtain ⟨e9_0, e9_1, e9_2, e9_3⟩ := f9 d9
      have d6 := waits u10_6 hdep
      obtain ⟨e6_0, e6_1, e6_2, e6_3⟩ := f6 d6
      obtain ⟨cs, hcs, hcz⟩ := e9_2
      obtain ⟨w', hst, hnew, hsp⟩ := storeIC hcs hcz
      refine op_store o10 e9_0 e6_0 hst ?_
      have hb' := span_new hb hsp e9_1
      exact ⟨hf, hb', P, bg, blo, bhi, fa, fcap, glo, ghi, ra, rcap, lo, hi, ra2, rcap2, lo2, hi2, fun h => by have h' := (nr h); have g0 := f0 h'; exact g0,
        fun h => by have h' := (nr h); have g0 := f1 h'; exact g0,
        fun h => by have h' := (nr h); have := x0 h' d9; obtain ⟨g0, g1, g2, g3⟩ := f2 h'; exact ⟨g0, (g1.span hsp (by omega)), g2, (Nat.le_trans g3 hsp.size)⟩,
        fun h => by have h' := (nr h); have := x1 h' d9; obtain ⟨g0, g1, g2, g3, g4, g5⟩ := f3 h'; exact ⟨g0, (g1.span hsp (by omega)), g2, (Nat.le_trans g3 hsp.size), g4, (Or.inr g5)⟩,
        fun h => by have h' := (nr h); have := x2 h' d9; have := x3 h' d9; obtain ⟨g0, g1, g2, g3, g4, g5, g6, g7⟩ := f4 h'; exact ⟨g0, (g1.span hsp (by omega)), (g2.span hsp (by omega)), g3, (Nat.le_trans g4 hsp.size), (Nat.le_trans g5 hsp.size), (Or.inr g6), (Or.inr g7)⟩,
        fun h => by have h' := (nr h); obtain ⟨g0, g1, g2, g3⟩ := f5 h'; exact ⟨g0, (Or.inr g1), (Or.inr g2), (Or.inr g3)⟩,
        fun h => by have h' := (nr h); obtain ⟨g0, g1, g2, g3⟩ := f6 h'; exact ⟨g0, (Or.inr g1), (Or.inr g2), (Or.inr g3)⟩,
        fun h => by have h' := (nr h); obtain ⟨g0, g1, g2, g3⟩ := f7 h'; exact ⟨g0, (Or.inr g1), (Or.inr g2), (Or.inr g3)⟩,
        fun h => by have h' := (nr h); obtain ⟨g0, g1, g2, g3⟩ := f8 h'; exact ⟨g0, (Or.inr g1), (Or.inr g2), (Or.inr g3)⟩,
        fun h => by have h' := (nr h); obtain ⟨g0, g1, g2, g3⟩ := f9 h'; exact ⟨g0, g1, ⟨_, hnew, rfl⟩, (Nat.le_trans g3 hsp.size)⟩,
        fun _ => ⟨hnew, e9_1, Or.inr e6_1, Or.inr e6_2, Or.inr e6_3, Or.inr d9⟩,
        fun h => by have h' := (nr h); obtain ⟨g0, g1, g2, g3⟩ := f11 h'; exact ⟨(g0.span hsp (by omega)), (Or.inr g1), (Or.inr g2), (Or.inr g3)⟩,
        fun h => by have h' := (nr h); obtain ⟨g0, g1, g2, g3⟩ := f12 h'; exact ⟨g0, (Or.inr g1), (Or.inr g2), (Or.inr g3)⟩,
        fun h1 h2 => x0 (nr h1) (nr h2),
        fun h1 h2 => x1 (nr h1) (nr h2),
        fun h1 h2 => x2 (nr h1) (nr h2),
        fun h1 h2 => x3 (nr h1) (nr h2),
        by obtain ⟨cs, hcs, hcz⟩ := pm; exact ⟨cs, hcs.span hsp (by omega), hcz⟩⟩
    · have d7 := waits u11_7 hdep
      obtain ⟨e7_0, e7_1, e7_2, e7_3⟩ := f7 d7
      obtain ⟨cs, hcs, hcz⟩ := pm
      obtain ⟨w', hst, hnew, hsp⟩ := storeIR hcs hcz
      refine op_store o11 ((hf.eval (by decide)).trans h5) e7_0 hst ?_
      have hb' := hb.trans hsp
      exact ⟨hf, hb', P, bg, blo, bhi, fa, fcap, glo, ghi, ra, rcap, lo, hi, ra2, rcap2, lo2, hi2, fun h => by have h' := (nr h); have g0 := f0 h'; exact g0,
        fun h => by have h' := (nr h); have g0 := f1 h'; exact g0,
        fun h => by have h' := (nr h); obtain ⟨g0, g1, g2, g3⟩ := f2 h'; exact ⟨g0, (g1.span hsp (by omega)), g2, (Nat.le_trans g3 hsp.size)⟩,
        fun h => by have h' := (nr h); obtain ⟨g0, g1, g2, g3, g4, g5⟩ := f3 h'; exact ⟨g0, (g1.span hsp (by omega)), g2, (Nat.le_trans g3 hsp.size), g4, (Or.inr g5)⟩,
        fun h => by have h' := (nr h); obtain ⟨g0, g1, g2, g3, g4, g5, g6, g7⟩ := f4 h'; exact ⟨g0, (g1.span hsp (by omega)), (g2.span hsp (by omega)), g3, (Nat.le_trans g4 hsp.size), (Nat.le_trans g5 hsp.size), (Or.inr g6), (Or.inr g7)⟩,
        fun h => by have h' := (nr h); obtain ⟨g0, g1, g2, g3⟩ := f5 h'; exact ⟨g0, (Or.inr g1), (Or.inr g2), (Or.inr g3)⟩,
        fun h => by have h' := (nr h); obtain ⟨g0, g1, g2, g3⟩ := f6 h'; exact ⟨g0, (Or.inr g1), (Or.inr g2), (Or.inr g3)⟩,
        fun h => by have h' := (nr h); obtain ⟨g0, g1, g2, g3⟩ := f7 h'; exact ⟨g0, (Or.inr g1), (Or.inr g2), (Or.inr g3)⟩,
        fun h => by have h' := (nr h); obtain ⟨g0, g1, g2, g3⟩ := f8 h'; exact ⟨g0, (Or.inr g1), (Or.inr g2), (Or.inr g3)⟩,
        fun h => by have h' := (nr h); obtain ⟨g0, g1, g2, g3⟩ := f9 h'; exact ⟨g0, g1, (by obtain ⟨cs, hcs, hcz⟩ := g2; exact ⟨cs, hcs.span hsp (by omega), hcz⟩), (Nat.le_trans g3 hsp.size)⟩,
        fun h => by have h' := (nr h); obtain ⟨g0, g1, g2, g3, g4, g5⟩ := f10 h'; exact ⟨(g0.span hsp (by omega)), g1, (Or.inr g2), (Or.inr g3), (Or.inr g4), (Or.inr g5)⟩,
        fun _ => ⟨hnew, Or.inr e7_1, Or.inr e7_2, Or.inr e7_3⟩,
        fun h => by have h' := (nr h); obtain ⟨g0, g1, g2, g3⟩ := f12 h'; exact ⟨g0, (Or.inr g1), (Or.inr g2), (Or.inr g3)⟩,
        fun h1 h2 => x0 (nr h1) (nr h2),
        fun h1 h2 => x1 (nr h1) (nr h2),
        fun h1 h2 => x2 (nr h1) (nr h2),
        fun h1 h2 => x3 (nr h1) (nr h2),
        ⟨_, hnew, rfl⟩⟩
    · have d8 := waits u12_8 hdep
      obtain ⟨e8_0, e8_1, e8_2, e8_3⟩ := f8 d8
      refine op_assign o12 e8_0 ?_
      exact ⟨hf.put (by decide) _, hb, P, bg, blo, bhi, fa, fcap, glo, ghi, ra, rcap, lo, hi, ra2, rcap2, lo2, hi2, fun h => K0 _ _ _ (by decide) rf (nr h),
        fun h => K1 _ _ _ (by decide) rf (nr h),
        fun h => K2 _ _ _ (by decide) rf (nr h),
        fun h => K3 _ _ _ (by decide) rf (nr h),
        fun h => K4 _ _ _ (by decide) rf (nr h),
        fun h => K5 _ _ _ (by decide) rf (nr h),
        fun h => K6 _ _ _ (by decide) rf (nr h),
        fun h => K7 _ _ _ (by decide) rf (nr h),
        fun h => K8 _ _ _ (by decide) rf (nr h),
        fun h => K9 _ _ _ (by decide) rf (nr h),
        fun h => K10 _ rf (nr h),
        fun h => K11 _ rf (nr h),
        fun _ => ⟨eval_put_self (by rw [hz]; decide), Or.inr e8_1, Or.inr e8_2, Or.inr e8_3⟩,
        fun h1 h2 => x0 (nr h1) (nr h2),
        fun h1 h2 => x1 (nr h1) (nr h2),
        fun h1 h2 => x2 (nr h1) (nr h2),
        fun h1 h2 => x3 (nr h1) (nr h2),
        pm⟩
  · intro D a w hD hI
    obtain ⟨hf, hb, P, bg, blo, bhi, fa, fcap, glo, ghi, ra, rcap, lo, hi, ra2, rcap2, lo2, hi2, f0, f1, f2, f3, f4, f5, f6, f7, f8, f9, f10, f11, f12, x0, x1, x2, x3, pm⟩ := hI
    rw [hn] at hD
    have e0_0 := f0 (hD 0 (by decide))
    have e1_0 := f1 (hD 1 (by decide))
    obtain ⟨e2_0, e2_1, e2_2, e2_3⟩ := f2 (hD 2 (by decide))
    obtain ⟨e3_0, e3_1, e3_2, e3_3, e3_4, e3_5⟩ := f3 (hD 3 (by decide))
    obtain ⟨e4_0, e4_1, e4_2, e4_3, e4_4, e4_5, e4_6, e4_7⟩ := f4 (hD 4 (by decide))
    obtain ⟨e5_0, e5_1, e5_2, e5_3⟩ := f5 (hD 5 (by decide))
    obtain ⟨e6_0, e6_1, e6_2, e6_3⟩ := f6 (hD 6 (by decide))
    obtain ⟨e7_0, e7_1, e7_2, e7_3⟩ := f7 (hD 7 (by decide))
    obtain ⟨e8_0, e8_1, e8_2, e8_3⟩ := f8 (hD 8 (by decide))
    obtain ⟨e9_0, e9_1, e9_2, e9_3⟩ := f9 (hD 9 (by decide))
    obtain ⟨e10_0, e10_1, e10_2, e10_3, e10_4, e10_5⟩ := f10 (hD 10 (by decide))
    obtain ⟨e11_0, e11_1, e11_2, e11_3⟩ := f11 (hD 11 (by decide))
    obtain ⟨e12_0, e12_1, e12_2, e12_3⟩ := f12 (hD 12 (by decide))
    have y0 := x0 (hD 2 (by decide)) (hD 9 (by decide))
    have y1 := x1 (hD 3 (by decide)) (hD 9 (by decide))
    have y2 := x2 (hD 4 (by decide)) (hD 9 (by decide))
    have y3 := x3 (hD 4 (by decide)) (hD 9 (by decide))
    have hw := hb.size
    obtain ⟨n1, n2, n3, n4, n5⟩ := e4_3
    exact hQ a w hf ⟨P, ra, rcap, ra2, rcap2, lo, hi, lo2, hi2, e9_0, e12_0, e10_0, e11_0, e4_1, e4_2, ⟨by omega, by omega, by omega, by omega, by omega, n3, n4, n5, by omega, by omega⟩, hb⟩
  · exact ⟨FrameIs.refl _ _, (Span.refl _ _ _).drew, 0, 0, 0, 0, none, 0, 0, 0, none, 0, 0, 0, none, 0, 0, 0, fun h => False.elim h, fun h => False.elim h, fun h => False.elim h, fun h => False.elim h, fun h => False.elim h, fun h => False.elim h, fun h => False.elim h, fun h => False.elim h, fun h => False.elim h, fun h => False.elim h, fun h => False.elim h, fun h => False.elim h, fun h => False.elim h, fun h => False.elim h, fun h => False.elim h, fun h => False.elim h, fun h => False.elim h, ⟨_, hS, rfl⟩⟩

end Go.Proofs.YtblchdmemhhcbaaGreat
