/-
  The regions of FnExactServe that leave their order open, each walked once.
-/
import Derived.Test.YtblchdmemhhcbaaQSRegCpu
namespace Go.Proofs.Ytblchdmemhhcbaa
set_option linter.unusedVariables false
set_option linter.unusedSimpArgs false
open Go.RowKit

theorem nr {p q : Prop} (h : p ∨ q) (n : ¬ p := by decide) : q := h.resolve_left n

theorem serveReg5_ops (ops : Array Oper) (h : regionOps 5 (Try.f3.body.getD .skip) = some ops) : backward ops = true ∧ ops.size = 15 ∧ IsOp ops 0 (some 27) (.load 26 (.tmp 3)) ∧ IsOp ops 1 (some 28) (.call ⟨.value (.func 7), #[.tmp 27], #[26]⟩) ∧ IsOp ops 2 (some 29) (.load 29 (.tmp 4)) ∧ IsOp ops 3 (some 30) (.call ⟨.value (.func 8), #[.tmp 29], #[29]⟩) ∧ IsOp ops 4 (some 31) (.move (.tmp 2)) ∧ IsOp ops 5 (some 32) (.call ⟨.value (.func 6), #[.tmp 28, .tmp 30, .tmp 31], #[33, 34, 4]⟩) ∧ IsOp ops 6 (some 26) (.move (.tmp 32)) ∧ IsOp ops 7 (some 33) (.extract (.tmp 26) 0) ∧ IsOp ops 8 (some 34) (.extract (.tmp 26) 1) ∧ IsOp ops 9 (some 35) (.extract (.tmp 26) 2) ∧ IsOp ops 10 (some 8) (.alloc 33) ∧ IsOp ops 11 (some 9) (.alloc 34) ∧ IsOp ops 12 none (.store 33 (.tmp 8) (.tmp 33)) ∧ IsOp ops 13 none (.store 34 (.tmp 9) (.tmp 34)) ∧ IsOp ops 14 (some 10) (.assign (.tmp 35)) ∧ Waits ops 1 0 ∧ Waits ops 3 2 ∧ Waits ops 5 1 ∧ Waits ops 5 3 ∧ Waits ops 5 4 ∧ Waits ops 6 5 ∧ Waits ops 7 6 ∧ Waits ops 8 6 ∧ Waits ops 9 6 ∧ Waits ops 12 10 ∧ Waits ops 12 7 ∧ Waits ops 13 11 ∧ Waits ops 13 8 ∧ Waits ops 14 9 := by
  obtain rfl : ops = (regionOps 5 (Try.f3.body.getD .skip)).getD #[] := by rw [h]; rfl
  exact ⟨by kernel_rfl, by kernel_rfl, by unfold IsOp; kernel_rfl, by unfold IsOp; kernel_rfl, by unfold IsOp; kernel_rfl, by unfold IsOp; kernel_rfl, by unfold IsOp; kernel_rfl, by unfold IsOp; kernel_rfl, by unfold IsOp; kernel_rfl, by unfold IsOp; kernel_rfl, by unfold IsOp; kernel_rfl, by unfold IsOp; kernel_rfl, by unfold IsOp; kernel_rfl, by unfold IsOp; kernel_rfl, by unfold IsOp; kernel_rfl, by unfold IsOp; kernel_rfl, by unfold IsOp; kernel_rfl, by unfold Waits; kernel_rfl, by unfold Waits; kernel_rfl, by unfold Waits; kernel_rfl, by unfold Waits; kernel_rfl, by unfold Waits; kernel_rfl, by unfold Waits; kernel_rfl, by unfold Waits; kernel_rfl, by unfold Waits; kernel_rfl, by unfold Waits; kernel_rfl, by unfold Waits; kernel_rfl, by unfold Waits; kernel_rfl, by unfold Waits; kernel_rfl, by unfold Waits; kernel_rfl, by unfold Waits; kernel_rfl⟩

abbrev serveReg5_I (c : CpuN) (r : CpuN × BusN) (L : List Nat) (nmi : Bool) (sa : Option Addr) (cap : Nat) (V : World) (a0 : Act) (D : Nat → Prop) (a : Act) (w : World) : Prop :=
  FrameIs a0 [8, 9, 10, 26, 27, 28, 29, 30, 31, 32, 33, 34, 35] a ∧ Below V.heap.size V w ∧ ∃ (P : Nat) (Q' : Nat) (g : Nat) (glo : Nat) (ghi : Nat) (ra : Option Addr) (rcap : Nat) (lo : Nat) (hi : Nat) (ra2 : Option Addr) (rcap2 : Nat) (lo2 : Nat) (hi2 : Nat), (D 0 → a.eval (.tmp 27) = cpuV c) ∧ (D 1 → a.eval (.tmp 28) = cpuV c) ∧ (D 2 → a.eval (.tmp 29) = ramV (.slice sa L.length cap)) ∧ (D 3 → a.eval (.tmp 30) = ramV (.slice (some ⟨g, 0, none⟩) L.length L.length) ∧ SegB w glo ghi (.slice (some ⟨g, 0, none⟩) L.length L.length) (L) ∧ (V.heap.size ≤ glo) ∧ ghi ≤ w.heap.size) ∧ (D 4 → a.eval (.tmp 31) = .bool nmi) ∧ (D 5 → a.eval (.tmp 32) = .tuple #[cpuV r.1, ramV (.slice ra r.2.mem.length rcap), .slice ra2 r.2.log.length rcap2] ∧ SegB w lo hi (.slice ra r.2.mem.length rcap) (r.2.mem) ∧ SegC w lo2 hi2 (.slice ra2 r.2.log.length rcap2) (r.2.log) ∧ (V.heap.size ≤ lo ∧ V.heap.size ≤ lo2 ∧ lo ≤ hi ∧ lo2 ≤ hi2 ∧ (hi ≤ lo2 ∨ hi2 ≤ lo)) ∧ hi ≤ w.heap.size ∧ hi2 ≤ w.heap.size ∧ D 3) ∧ (D 6 → a.eval (.tmp 26) = .tuple #[cpuV r.1, ramV (.slice ra r.2.mem.length rcap), .slice ra2 r.2.log.length rcap2] ∧ D 3 ∧ D 5) ∧ (D 7 → a.eval (.tmp 33) = cpuV r.1 ∧ D 3 ∧ D 5) ∧ (D 8 → a.eval (.tmp 34) = ramV (.slice ra r.2.mem.length rcap) ∧ D 3 ∧ D 5) ∧ (D 9 → a.eval (.tmp 35) = .slice ra2 r.2.log.length rcap2 ∧ D 3 ∧ D 5) ∧ (D 10 → a.eval (.tmp 8) = .pointer (some ⟨P, 0, none⟩) ∧ (V.heap.size ≤ P) ∧ (∃ cs : Array Value, BoxN w P 33 cs ∧ cs.size = 11) ∧ P + 1 ≤ w.heap.size) ∧ (D 11 → a.eval (.tmp 9) = .pointer (some ⟨Q', 0, none⟩) ∧ (V.heap.size ≤ Q') ∧ (∃ cs : Array Value, BoxN w Q' 34 cs ∧ cs.size = 1) ∧ Q' + 1 ≤ w.heap.size) ∧ (D 12 → BoxN w P 33 (cpuCells r.1) ∧ (V.heap.size ≤ P) ∧ D 3 ∧ D 5 ∧ D 10) ∧ (D 13 → BoxN w Q' 34 #[.slice ra r.2.mem.length rcap] ∧ (V.heap.size ≤ Q') ∧ D 3 ∧ D 5 ∧ D 11) ∧ (D 14 → a.eval (.tmp 10) = .slice ra2 r.2.log.length rcap2 ∧ D 3 ∧ D 5) ∧ (D 3 → D 10 → (ghi ≤ P ∨ P + 1 ≤ glo)) ∧ (D 3 → D 11 → (ghi ≤ Q' ∨ Q' + 1 ≤ glo)) ∧ (D 5 → D 10 → (hi ≤ P ∨ P + 1 ≤ lo)) ∧ (D 5 → D 10 → (hi2 ≤ P ∨ P + 1 ≤ lo2)) ∧ (D 5 → D 11 → (hi ≤ Q' ∨ Q' + 1 ≤ lo)) ∧ (D 5 → D 11 → (hi2 ≤ Q' ∨ Q' + 1 ≤ lo2)) ∧ (D 10 → D 11 → (P + 1 ≤ Q' ∨ Q' + 1 ≤ P))

set_option maxRecDepth 100000 in
set_option maxHeartbeats 4000000 in
theorem serveReg5 (c : CpuN) (r : CpuN × BusN) (L : List Nat) (nmi : Bool) (sa : Option Addr) (cap : Nat) (hl : L.length ≤ 1048576) (V : World) (C R : Nat) (hC : BoxN V C 26 (cpuCells c)) (hR : BoxN V R 29 #[.slice sa L.length cap]) (hrow : RowB V sa L) (HS : ∀ (g : Nat) (W : World), RowB W (some ⟨g, 0, none⟩) L → Calls Try.prog 6 #[cpuV c, ramV (.slice (some ⟨g, 0, none⟩) L.length L.length), .bool nmi] W (Stepped W r)) (a0 : Act) (h2 : a0.eval (.tmp 3) = .pointer (some ⟨C, 0, none⟩)) (h3 : a0.eval (.tmp 4) = .pointer (some ⟨R, 0, none⟩)) (h4 : a0.eval (.tmp 2) = .bool nmi) (hsz : a0.tmps.size = 149) (Q : Exit → Act → World → Prop)
    (hQ : ∀ a w, FrameIs a0 [8, 9, 10, 26, 27, 28, 29, 30, 31, 32, 33, 34, 35] a → Took3 V r (a.eval (.tmp 8)) (a.eval (.tmp 9)) (a.eval (.tmp 10)) w → Q .normal a w)
    (ops : Array Oper) (hops : regionOps 5 (Try.f3.body.getD .skip) = some ops) (id : Nat) : (Code.region id ops true).wp Try.prog Q a0 V := by
  obtain ⟨hbk, hn, o0, o1, o2, o3, o4, o5, o6, o7, o8, o9, o10, o11, o12, o13, o14, u1_0, u3_2, u5_1, u5_3, u5_4, u6_5, u7_6, u8_6, u9_6, u12_10, u12_7, u13_11, u13_8, u14_9⟩ := serveReg5_ops ops hops
  clear hops
  refine wp_region_facts (by kernel_rfl) hbk (serveReg5_I c r L nmi sa cap V a0) ?_ ?_ id a0 V ?_
  · intro i hin D a w hnd hdep hI
    obtain ⟨hf, hb, P, Q', g, glo, ghi, ra, rcap, lo, hi, ra2, rcap2, lo2, hi2, f0, f1, f2, f3, f4, f5, f6, f7, f8, f9, f10, f11, f12, f13, f14, x0, x1, x2, x3, x4, x5, x6⟩ := hI
    rw [hn] at hin
    have hz : a.tmps.size = 149 := hf.size.trans hsz
    have hbs := hb.size
    have rf := Below.refl w.heap.size w
    have K0 : ∀ (d : Nat) (v : Value) (w' : World), 27 ≠ d → Below w.heap.size w w' → D 0 → (a.put (some d) v).eval (.tmp 27) = cpuV c := fun d v w' hd hbw h => by have g0 := f0 h; exact ((eval_put_ne hd).trans g0)
    have K1 : ∀ (d : Nat) (v : Value) (w' : World), 28 ≠ d → Below w.heap.size w w' → D 1 → (a.put (some d) v).eval (.tmp 28) = cpuV c := fun d v w' hd hbw h => by have g0 := f1 h; exact ((eval_put_ne hd).trans g0)
    have K2 : ∀ (d : Nat) (v : Value) (w' : World), 29 ≠ d → Below w.heap.size w w' → D 2 → (a.put (some d) v).eval (.tmp 29) = ramV (.slice sa L.length cap) := fun d v w' hd hbw h => by have g0 := f2 h; exact ((eval_put_ne hd).trans g0)
    have K3 : ∀ (d : Nat) (v : Value) (w' : World), 30 ≠ d → Below w.heap.size w w' → D 3 → (a.put (some d) v).eval (.tmp 30) = ramV (.slice (some ⟨g, 0, none⟩) L.length L.length) ∧ SegB w' glo ghi (.slice (some ⟨g, 0, none⟩) L.length L.length) (L) ∧ (V.heap.size ≤ glo) ∧ ghi ≤ w'.heap.size := fun d v w' hd hbw h => by obtain ⟨g0, g1, g2, g3⟩ := f3 h; exact ⟨((eval_put_ne hd).trans g0), (g1.below hbw), g2, (Nat.le_trans g3 hbw.size)⟩
    have K4 : ∀ (d : Nat) (v : Value) (w' : World), 31 ≠ d → Below w.heap.size w w' → D 4 → (a.put (some d) v).eval (.tmp 31) = .bool nmi := fun d v w' hd hbw h => by have g0 := f4 h; exact ((eval_put_ne hd).trans g0)
    have K5 : ∀ (d : Nat) (v : Value) (w' : World), 32 ≠ d → Below w.heap.size w w' → D 5 → (a.put (some d) v).eval (.tmp 32) = .tuple #[cpuV r.1, ramV (.slice ra r.2.mem.length rcap), .slice ra2 r.2.log.length rcap2] ∧ SegB w' lo hi (.slice ra r.2.mem.length rcap) (r.2.mem) ∧ SegC w' lo2 hi2 (.slice ra2 r.2.log.length rcap2) (r.2.log) ∧ (V.heap.size ≤ lo ∧ V.heap.size ≤ lo2 ∧ lo ≤ hi ∧ lo2 ≤ hi2 ∧ (hi ≤ lo2 ∨ hi2 ≤ lo)) ∧ hi ≤ w'.heap.size ∧ hi2 ≤ w'.heap.size ∧ (3 = i ∨ D 3) := fun d v w' hd hbw h => by obtain ⟨g0, g1, g2, g3, g4, g5, g6⟩ := f5 h; exact ⟨((eval_put_ne hd).trans g0), (g1.below hbw), (g2.below hbw), g3, (Nat.le_trans g4 hbw.size), (Nat.le_trans g5 hbw.size), (Or.inr g6)⟩
    have K6 : ∀ (d : Nat) (v : Value) (w' : World), 26 ≠ d → Below w.heap.size w w' → D 6 → (a.put (some d) v).eval (.tmp 26) = .tuple #[cpuV r.1, ramV (.slice ra r.2.mem.length rcap), .slice ra2 r.2.log.length rcap2] ∧ (3 = i ∨ D 3) ∧ (5 = i ∨ D 5) := fun d v w' hd hbw h => by obtain ⟨g0, g1, g2⟩ := f6 h; exact ⟨((eval_put_ne hd).trans g0), (Or.inr g1), (Or.inr g2)⟩
    have K7 : ∀ (d : Nat) (v : Value) (w' : World), 33 ≠ d → Below w.heap.size w w' → D 7 → (a.put (some d) v).eval (.tmp 33) = cpuV r.1 ∧ (3 = i ∨ D 3) ∧ (5 = i ∨ D 5) := fun d v w' hd hbw h => by obtain ⟨g0, g1, g2⟩ := f7 h; exact ⟨((eval_put_ne hd).trans g0), (Or.inr g1), (Or.inr g2)⟩
    have K8 : ∀ (d : Nat) (v : Value) (w' : World), 34 ≠ d → Below w.heap.size w w' → D 8 → (a.put (some d) v).eval (.tmp 34) = ramV (.slice ra r.2.mem.length rcap) ∧ (3 = i ∨ D 3) ∧ (5 = i ∨ D 5) := fun d v w' hd hbw h => by obtain ⟨g0, g1, g2⟩ := f8 h; exact ⟨((eval_put_ne hd).trans g0), (Or.inr g1), (Or.inr g2)⟩
    have K9 : ∀ (d : Nat) (v : Value) (w' : World), 35 ≠ d → Below w.heap.size w w' → D 9 → (a.put (some d) v).eval (.tmp 35) = .slice ra2 r.2.log.length rcap2 ∧ (3 = i ∨ D 3) ∧ (5 = i ∨ D 5) := fun d v w' hd hbw h => by obtain ⟨g0, g1, g2⟩ := f9 h; exact ⟨((eval_put_ne hd).trans g0), (Or.inr g1), (Or.inr g2)⟩
    have K10 : ∀ (d : Nat) (v : Value) (w' : World), 8 ≠ d → Below w.heap.size w w' → D 10 → (a.put (some d) v).eval (.tmp 8) = .pointer (some ⟨P, 0, none⟩) ∧ (V.heap.size ≤ P) ∧ (∃ cs : Array Value, BoxN w' P 33 cs ∧ cs.size = 11) ∧ P + 1 ≤ w'.heap.size := fun d v w' hd hbw h => by obtain ⟨g0, g1, g2, g3⟩ := f10 h; exact ⟨((eval_put_ne hd).trans g0), g1, (by obtain ⟨cs, hcs, hcz⟩ := g2; exact ⟨cs, hcs.below hbw, hcz⟩), (Nat.le_trans g3 hbw.size)⟩
    have K11 : ∀ (d : Nat) (v : Value) (w' : World), 9 ≠ d → Below w.heap.size w w' → D 11 → (a.put (some d) v).eval (.tmp 9) = .pointer (some ⟨Q', 0, none⟩) ∧ (V.heap.size ≤ Q') ∧ (∃ cs : Array Value, BoxN w' Q' 34 cs ∧ cs.size = 1) ∧ Q' + 1 ≤ w'.heap.size := fun d v w' hd hbw h => by obtain ⟨g0, g1, g2, g3⟩ := f11 h; exact ⟨((eval_put_ne hd).trans g0), g1, (by obtain ⟨cs, hcs, hcz⟩ := g2; exact ⟨cs, hcs.below hbw, hcz⟩), (Nat.le_trans g3 hbw.size)⟩
    have K12 : ∀ (w' : World), Below w.heap.size w w' → D 12 → BoxN w' P 33 (cpuCells r.1) ∧ (V.heap.size ≤ P) ∧ (3 = i ∨ D 3) ∧ (5 = i ∨ D 5) ∧ (10 = i ∨ D 10) := fun w' hbw h => by obtain ⟨g0, g1, g2, g3, g4⟩ := f12 h; exact ⟨(g0.below hbw), g1, (Or.inr g2), (Or.inr g3), (Or.inr g4)⟩
    have K13 : ∀ (w' : World), Below w.heap.size w w' → D 13 → BoxN w' Q' 34 #[.slice ra r.2.mem.length rcap] ∧ (V.heap.size ≤ Q') ∧ (3 = i ∨ D 3) ∧ (5 = i ∨ D 5) ∧ (11 = i ∨ D 11) := fun w' hbw h => by obtain ⟨g0, g1, g2, g3, g4⟩ := f13 h; exact ⟨(g0.below hbw), g1, (Or.inr g2), (Or.inr g3), (Or.inr g4)⟩
    have K14 : ∀ (d : Nat) (v : Value) (w' : World), 10 ≠ d → Below w.heap.size w w' → D 14 → (a.put (some d) v).eval (.tmp 10) = .slice ra2 r.2.log.length rcap2 ∧ (3 = i ∨ D 3) ∧ (5 = i ∨ D 5) := fun d v w' hd hbw h => by obtain ⟨g0, g1, g2⟩ := f14 h; exact ⟨((eval_put_ne hd).trans g0), (Or.inr g1), (Or.inr g2)⟩
    obtain (rfl | rfl | rfl | rfl | rfl | rfl | rfl | rfl | rfl | rfl | rfl | rfl | rfl | rfl | rfl) : i = 0 ∨ i = 1 ∨ i = 2 ∨ i = 3 ∨ i = 4 ∨ i = 5 ∨ i = 6 ∨ i = 7 ∨ i = 8 ∨ i = 9 ∨ i = 10 ∨ i = 11 ∨ i = 12 ∨ i = 13 ∨ i = 14 := by omega
    · refine op_load o0 ((hf.eval (by decide)).trans h2) (loadLC (hC.below hb)) ?_
      exact ⟨hf.put (by decide) _, hb, P, Q', g, glo, ghi, ra, rcap, lo, hi, ra2, rcap2, lo2, hi2, fun _ => eval_put_self (by rw [hz]; decide),
        fun h => K1 _ _ _ (by decide) rf (nr h),
        fun h => K2 _ _ _ (by decide) rf (nr h),
        fun h => K3 _ _ _ (by decide) rf (nr h),
        fun h => K4 _ _ _ (by decide) rf (nr h),
        fun h => K5 _ _ _ (by decide) rf (nr h),
        fun h => K6 _ _ _ (by decide) rf (nr h),
        fun h => K7 _ _ _ (by decide) rf (nr h),
        fun h => K8 _ _ _ (by decide) rf (nr h),
        fun h => K9 _ _ _ (by decide) rf (nr h),
        fun h => K10 _ _ _ (by decide) rf (nr h),
        fun h => K11 _ _ _ (by decide) rf (nr h),
        fun h => K12 _ rf (nr h),
        fun h => K13 _ rf (nr h),
        fun h => K14 _ _ _ (by decide) rf (nr h),
        fun h1 h2 => x0 (nr h1) (nr h2),
        fun h1 h2 => x1 (nr h1) (nr h2),
        fun h1 h2 => x2 (nr h1) (nr h2),
        fun h1 h2 => x3 (nr h1) (nr h2),
        fun h1 h2 => x4 (nr h1) (nr h2),
        fun h1 h2 => x5 (nr h1) (nr h2),
        fun h1 h2 => x6 (nr h1) (nr h2)⟩
    · have d0 := waits u1_0 hdep
      have e0_0 := f0 d0
      refine op_call o1 (by simp only [List.map_toArray, List.map_cons, List.map_nil, eval_const, e0_0]) rfl ((toCpu_any c _).mono ?_)
      rintro e w' ⟨rfl, hbw⟩
      have hbz := hbw.size
      have hb' := below_step hb hbw (Nat.le_refl _)
      refine ⟨_, rfl, ?_⟩
      exact ⟨hf.put (by decide) _, hb', P, Q', g, glo, ghi, ra, rcap, lo, hi, ra2, rcap2, lo2, hi2, fun h => K0 _ _ _ (by decide) hbw (nr h),
        fun _ => eval_put_self (by rw [hz]; decide),
        fun h => K2 _ _ _ (by decide) hbw (nr h),
        fun h => K3 _ _ _ (by decide) hbw (nr h),
        fun h => K4 _ _ _ (by decide) hbw (nr h),
        fun h => K5 _ _ _ (by decide) hbw (nr h),
        fun h => K6 _ _ _ (by decide) hbw (nr h),
        fun h => K7 _ _ _ (by decide) hbw (nr h),
        fun h => K8 _ _ _ (by decide) hbw (nr h),
        fun h => K9 _ _ _ (by decide) hbw (nr h),
        fun h => K10 _ _ _ (by decide) hbw (nr h),
        fun h => K11 _ _ _ (by decide) hbw (nr h),
        fun h => K12 _ hbw (nr h),
        fun h => K13 _ hbw (nr h),
        fun h => K14 _ _ _ (by decide) hbw (nr h),
        fun h1 h2 => x0 (nr h1) (nr h2),
        fun h1 h2 => x1 (nr h1) (nr h2),
        fun h1 h2 => x2 (nr h1) (nr h2),
        fun h1 h2 => x3 (nr h1) (nr h2),
        fun h1 h2 => x4 (nr h1) (nr h2),
        fun h1 h2 => x5 (nr h1) (nr h2),
        fun h1 h2 => x6 (nr h1) (nr h2)⟩
    · refine op_load o2 ((hf.eval (by decide)).trans h3) (loadLR (hR.below hb)) ?_
      exact ⟨hf.put (by decide) _, hb, P, Q', g, glo, ghi, ra, rcap, lo, hi, ra2, rcap2, lo2, hi2, fun h => K0 _ _ _ (by decide) rf (nr h),
        fun h => K1 _ _ _ (by decide) rf (nr h),
        fun _ => eval_put_self (by rw [hz]; decide),
        fun h => K3 _ _ _ (by decide) rf (nr h),
        fun h => K4 _ _ _ (by decide) rf (nr h),
        fun h => K5 _ _ _ (by decide) rf (nr h),
        fun h => K6 _ _ _ (by decide) rf (nr h),
        fun h => K7 _ _ _ (by decide) rf (nr h),
        fun h => K8 _ _ _ (by decide) rf (nr h),
        fun h => K9 _ _ _ (by decide) rf (nr h),
        fun h => K10 _ _ _ (by decide) rf (nr h),
        fun h => K11 _ _ _ (by decide) rf (nr h),
        fun h => K12 _ rf (nr h),
        fun h => K13 _ rf (nr h),
        fun h => K14 _ _ _ (by decide) rf (nr h),
        fun h1 h2 => x0 (nr h1) (nr h2),
        fun h1 h2 => x1 (nr h1) (nr h2),
        fun h1 h2 => x2 (nr h1) (nr h2),
        fun h1 h2 => x3 (nr h1) (nr h2),
        fun h1 h2 => x4 (nr h1) (nr h2),
        fun h1 h2 => x5 (nr h1) (nr h2),
        fun h1 h2 => x6 (nr h1) (nr h2)⟩
    · have d2 := waits u3_2 hdep
      have e2_0 := f2 d2
      refine op_call o3 (by simp only [List.map_toArray, List.map_cons, List.map_nil, eval_const, e2_0]) rfl ((toRam_any sa cap L _ hl (RowB.below hrow hb)).mono ?_)
      rintro e w' ⟨g', rfl, om, hbw⟩
      have hbz := hbw.size
      have hb' := below_step hb hbw (Nat.le_refl _)
      refine ⟨_, rfl, ?_⟩
      exact ⟨hf.put (by decide) _, hb', P, Q', g', w.heap.size, w'.heap.size, ra, rcap, lo, hi, ra2, rcap2, lo2, hi2, fun h => K0 _ _ _ (by decide) hbw (nr h),
        fun h => K1 _ _ _ (by decide) hbw (nr h),
        fun h => K2 _ _ _ (by decide) hbw (nr h),
        fun _ => ⟨eval_put_self (by rw [hz]; decide), SegB.of om, hbs, Nat.le_refl _⟩,
        fun h => K4 _ _ _ (by decide) hbw (nr h),
        fun h => by have h' := (nr h); obtain ⟨g0, g1, g2, g3, g4, g5, g6⟩ := f5 h'; exact absurd g6 hnd,
        fun h => by have h' := (nr h); obtain ⟨g0, g1, g2⟩ := f6 h'; exact absurd g1 hnd,
        fun h => by have h' := (nr h); obtain ⟨g0, g1, g2⟩ := f7 h'; exact absurd g1 hnd,
        fun h => by have h' := (nr h); obtain ⟨g0, g1, g2⟩ := f8 h'; exact absurd g1 hnd,
        fun h => by have h' := (nr h); obtain ⟨g0, g1, g2⟩ := f9 h'; exact absurd g1 hnd,
        fun h => K10 _ _ _ (by decide) hbw (nr h),
        fun h => K11 _ _ _ (by decide) hbw (nr h),
        fun h => by have h' := (nr h); obtain ⟨g0, g1, g2, g3, g4⟩ := f12 h'; exact absurd g2 hnd,
        fun h => by have h' := (nr h); obtain ⟨g0, g1, g2, g3, g4⟩ := f13 h'; exact absurd g2 hnd,
        fun h => by have h' := (nr h); obtain ⟨g0, g1, g2⟩ := f14 h'; exact absurd g1 hnd,
        fun h1 h2 => by have h' := (nr h2); obtain ⟨g0, g1, g2, g3⟩ := f10 h'; omega,
        fun h1 h2 => by have h' := (nr h2); obtain ⟨g0, g1, g2, g3⟩ := f11 h'; omega,
        fun h1 h2 => x2 (nr h1) (nr h2),
        fun h1 h2 => x3 (nr h1) (nr h2),
        fun h1 h2 => x4 (nr h1) (nr h2),
        fun h1 h2 => x5 (nr h1) (nr h2),
        fun h1 h2 => x6 (nr h1) (nr h2)⟩
    · refine op_move o4 ((hf.eval (by decide)).trans h4) ?_
      exact ⟨hf.put (by decide) _, hb, P, Q', g, glo, ghi, ra, rcap, lo, hi, ra2, rcap2, lo2, hi2, fun h => K0 _ _ _ (by decide) rf (nr h),
        fun h => K1 _ _ _ (by decide) rf (nr h),
        fun h => K2 _ _ _ (by decide) rf (nr h),
        fun h => K3 _ _ _ (by decide) rf (nr h),
        fun _ => eval_put_self (by rw [hz]; decide),
        fun h => K5 _ _ _ (by decide) rf (nr h),
        fun h => K6 _ _ _ (by decide) rf (nr h),
        fun h => K7 _ _ _ (by decide) rf (nr h),
        fun h => K8 _ _ _ (by decide) rf (nr h),
        fun h => K9 _ _ _ (by decide) rf (nr h),
        fun h => K10 _ _ _ (by decide) rf (nr h),
        fun h => K11 _ _ _ (by decide) rf (nr h),
        fun h => K12 _ rf (nr h),
        fun h => K13 _ rf (nr h),
        fun h => K14 _ _ _ (by decide) rf (nr h),
        fun h1 h2 => x0 (nr h1) (nr h2),
        fun h1 h2 => x1 (nr h1) (nr h2),
        fun h1 h2 => x2 (nr h1) (nr h2),
        fun h1 h2 => x3 (nr h1) (nr h2),
        fun h1 h2 => x4 (nr h1) (nr h2),
        fun h1 h2 => x5 (nr h1) (nr h2),
        fun h1 h2 => x6 (nr h1) (nr h2)⟩
    · have d1 := waits u5_1 hdep
      have e1_0 := f1 d1
      have d3 := waits u5_3 hdep
      obtain ⟨e3_0, e3_1, e3_2, e3_3⟩ := f3 d3
      have d4 := waits u5_4 hdep
      have e4_0 := f4 d4
      refine op_call o5 (by simp only [List.map_toArray, List.map_cons, List.map_nil, eval_const, e1_0, e3_0, e4_0]) rfl ((HS g w e3_1.row).mono ?_)
      rintro e w' hst
      obtain ⟨ya, ycap, ya2, ycap2, ylo, yhi, ylo2, yhi2, rfl, sm, sc, ⟨q1, q2, q3, q4, q5, q6, q7⟩, hbw⟩ := hst.three
      have hbz := hbw.size
      have hb' := below_step hb hbw (Nat.le_refl _)
      refine ⟨_, rfl, ?_⟩
      exact ⟨hf.put (by decide) _, hb', P, Q', g, glo, ghi, ya, ycap, ylo, yhi, ya2, ycap2, ylo2, yhi2, fun h => K0 _ _ _ (by decide) hbw (nr h),
        fun h => K1 _ _ _ (by decide) hbw (nr h),
        fun h => K2 _ _ _ (by decide) hbw (nr h),
        fun h => K3 _ _ _ (by decide) hbw (nr h),
        fun h => K4 _ _ _ (by decide) hbw (nr h),
        fun _ => ⟨eval_put_self (by rw [hz]; decide), sm, sc, ⟨by omega, by omega, q5, q6, q7⟩, q2, q4, Or.inr d3⟩,
        fun h => by have h' := (nr h); obtain ⟨g0, g1, g2⟩ := f6 h'; exact absurd g2 hnd,
        fun h => by have h' := (nr h); obtain ⟨g0, g1, g2⟩ := f7 h'; exact absurd g2 hnd,
        fun h => by have h' := (nr h); obtain ⟨g0, g1, g2⟩ := f8 h'; exact absurd g2 hnd,
        fun h => by have h' := (nr h); obtain ⟨g0, g1, g2⟩ := f9 h'; exact absurd g2 hnd,
        fun h => K10 _ _ _ (by decide) hbw (nr h),
        fun h => K11 _ _ _ (by decide) hbw (nr h),
        fun h => by have h' := (nr h); obtain ⟨g0, g1, g2, g3, g4⟩ := f12 h'; exact absurd g3 hnd,
        fun h => by have h' := (nr h); obtain ⟨g0, g1, g2, g3, g4⟩ := f13 h'; exact absurd g3 hnd,
        fun h => by have h' := (nr h); obtain ⟨g0, g1, g2⟩ := f14 h'; exact absurd g2 hnd,
        fun h1 h2 => x0 (nr h1) (nr h2),
        fun h1 h2 => x1 (nr h1) (nr h2),
        fun h1 h2 => by have h' := (nr h2); obtain ⟨g0, g1, g2, g3⟩ := f10 h'; omega,
        fun h1 h2 => by have h' := (nr h2); obtain ⟨g0, g1, g2, g3⟩ := f10 h'; omega,
        fun h1 h2 => by have h' := (nr h2); obtain ⟨g0, g1, g2, g3⟩ := f11 h'; omega,
        fun h1 h2 => by have h' := (nr h2); obtain ⟨g0, g1, g2, g3⟩ := f11 h'; omega,
        fun h1 h2 => x6 (nr h1) (nr h2)⟩
    · have d5 := waits u6_5 hdep
      obtain ⟨e5_0, e5_1, e5_2, e5_3, e5_4, e5_5, e5_6⟩ := f5 d5
      refine op_move o6 e5_0 ?_
      exact ⟨hf.put (by decide) _, hb, P, Q', g, glo, ghi, ra, rcap, lo, hi, ra2, rcap2, lo2, hi2, fun h => K0 _ _ _ (by decide) rf (nr h),
        fun h => K1 _ _ _ (by decide) rf (nr h),
        fun h => K2 _ _ _ (by decide) rf (nr h),
        fun h => K3 _ _ _ (by decide) rf (nr h),
        fun h => K4 _ _ _ (by decide) rf (nr h),
        fun h => K5 _ _ _ (by decide) rf (nr h),
        fun _ => ⟨eval_put_self (by rw [hz]; decide), Or.inr e5_6, Or.inr d5⟩,
        fun h => K7 _ _ _ (by decide) rf (nr h),
        fun h => K8 _ _ _ (by decide) rf (nr h),
        fun h => K9 _ _ _ (by decide) rf (nr h),
        fun h => K10 _ _ _ (by decide) rf (nr h),
        fun h => K11 _ _ _ (by decide) rf (nr h),
        fun h => K12 _ rf (nr h),
        fun h => K13 _ rf (nr h),
        fun h => K14 _ _ _ (by decide) rf (nr h),
        fun h1 h2 => x0 (nr h1) (nr h2),
        fun h1 h2 => x1 (nr h1) (nr h2),
        fun h1 h2 => x2 (nr h1) (nr h2),
        fun h1 h2 => x3 (nr h1) (nr h2),
        fun h1 h2 => x4 (nr h1) (nr h2),
        fun h1 h2 => x5 (nr h1) (nr h2),
        fun h1 h2 => x6 (nr h1) (nr h2)⟩
    · have d6 := waits u7_6 hdep
      obtain ⟨e6_0, e6_1, e6_2⟩ := f6 d6
      refine op_extract o7 e6_0 (by rfl) ?_
      exact ⟨hf.put (by decide) _, hb, P, Q', g, glo, ghi, ra, rcap, lo, hi, ra2, rcap2, lo2, hi2, fun h => K0 _ _ _ (by decide) rf (nr h),
        fun h => K1 _ _ _ (by decide) rf (nr h),
        fun h => K2 _ _ _ (by decide) rf (nr h),
        fun h => K3 _ _ _ (by decide) rf (nr h),
        fun h => K4 _ _ _ (by decide) rf (nr h),
        fun h => K5 _ _ _ (by decide) rf (nr h),
        fun h => K6 _ _ _ (by decide) rf (nr h),
        fun _ => ⟨eval_put_self (by rw [hz]; decide), Or.inr e6_1, Or.inr e6_2⟩,
        fun h => K8 _ _ _ (by decide) rf (nr h),
        fun h => K9 _ _ _ (by decide) rf (nr h),
        fun h => K10 _ _ _ (by decide) rf (nr h),
        fun h => K11 _ _ _ (by decide) rf (nr h),
        fun h => K12 _ rf (nr h),
        fun h => K13 _ rf (nr h),
        fun h => K14 _ _ _ (by decide) rf (nr h),
        fun h1 h2 => x0 (nr h1) (nr h2),
        fun h1 h2 => x1 (nr h1) (nr h2),
        fun h1 h2 => x2 (nr h1) (nr h2),
        fun h1 h2 => x3 (nr h1) (nr h2),
        fun h1 h2 => x4 (nr h1) (nr h2),
        fun h1 h2 => x5 (nr h1) (nr h2),
        fun h1 h2 => x6 (nr h1) (nr h2)⟩
    · have d6 := waits u8_6 hdep
      obtain ⟨e6_0, e6_1, e6_2⟩ := f6 d6
      refine op_extract o8 e6_0 (by rfl) ?_
      exact ⟨hf.put (by decide) _, hb, P, Q', g, glo, ghi, ra, rcap, lo, hi, ra2, rcap2, lo2, hi2, fun h => K0 _ _ _ (by decide) rf (nr h),
        fun h => K1 _ _ _ (by decide) rf (nr h),
        fun h => K2 _ _ _ (by decide) rf (nr h),
        fun h => K3 _ _ _ (by decide) rf (nr h),
        fun h => K4 _ _ _ (by decide) rf (nr h),
        fun h => K5 _ _ _ (by decide) rf (nr h),
        fun h => K6 _ _ _ (by decide) rf (nr h),
        fun h => K7 _ _ _ (by decide) rf (nr h),
        fun _ => ⟨eval_put_self (by rw [hz]; decide), Or.inr e6_1, Or.inr e6_2⟩,
        fun h => K9 _ _ _ (by decide) rf (nr h),
        fun h => K10 _ _ _ (by decide) rf (nr h),
        fun h => K11 _ _ _ (by decide) rf (nr h),
        fun h => K12 _ rf (nr h),
        fun h => K13 _ rf (nr h),
        fun h => K14 _ _ _ (by decide) rf (nr h),
        fun h1 h2 => x0 (nr h1) (nr h2),
        fun h1 h2 => x1 (nr h1) (nr h2),
        fun h1 h2 => x2 (nr h1) (nr h2),
        fun h1 h2 => x3 (nr h1) (nr h2),
        fun h1 h2 => x4 (nr h1) (nr h2),
        fun h1 h2 => x5 (nr h1) (nr h2),
        fun h1 h2 => x6 (nr h1) (nr h2)⟩
    · have d6 := waits u9_6 hdep
      obtain ⟨e6_0, e6_1, e6_2⟩ := f6 d6
      refine op_extract o9 e6_0 (by rfl) ?_
      exact ⟨hf.put (by decide) _, hb, P, Q', g, glo, ghi, ra, rcap, lo, hi, ra2, rcap2, lo2, hi2, fun h => K0 _ _ _ (by decide) rf (nr h),
        fun h => K1 _ _ _ (by decide) rf (nr h),
        fun h => K2 _ _ _ (by decide) rf (nr h),
        fun h => K3 _ _ _ (by decide) rf (nr h),
        fun h => K4 _ _ _ (by decide) rf (nr h),
        fun h => K5 _ _ _ (by decide) rf (nr h),
        fun h => K6 _ _ _ (by decide) rf (nr h),
        fun h => K7 _ _ _ (by decide) rf (nr h),
        fun h => K8 _ _ _ (by decide) rf (nr h),
        fun _ => ⟨eval_put_self (by rw [hz]; decide), Or.inr e6_1, Or.inr e6_2⟩,
        fun h => K10 _ _ _ (by decide) rf (nr h),
        fun h => K11 _ _ _ (by decide) rf (nr h),
        fun h => K12 _ rf (nr h),
        fun h => K13 _ rf (nr h),
        fun h => K14 _ _ _ (by decide) rf (nr h),
        fun h1 h2 => x0 (nr h1) (nr h2),
        fun h1 h2 => x1 (nr h1) (nr h2),
        fun h1 h2 => x2 (nr h1) (nr h2),
        fun h1 h2 => x3 (nr h1) (nr h2),
        fun h1 h2 => x4 (nr h1) (nr h2),
        fun h1 h2 => x5 (nr h1) (nr h2),
        fun h1 h2 => x6 (nr h1) (nr h2)⟩
    · obtain ⟨cs, hal, hcz⟩ := allocIC w
      refine op_alloc o10 hal ?_
      have hbw : Below w.heap.size w (w.alloc (.cells cs 33)) := (Below.refl _ _).alloc (Nat.le_refl _) _
      have hb' := below_step hb hbw (Nat.le_refl _)
      exact ⟨hf.put (by decide) _, hb', w.heap.size, Q', g, glo, ghi, ra, rcap, lo, hi, ra2, rcap2, lo2, hi2, fun h => K0 _ _ _ (by decide) hbw (nr h),
        fun h => K1 _ _ _ (by decide) hbw (nr h),
        fun h => K2 _ _ _ (by decide) hbw (nr h),
        fun h => K3 _ _ _ (by decide) hbw (nr h),
        fun h => K4 _ _ _ (by decide) hbw (nr h),
        fun h => K5 _ _ _ (by decide) hbw (nr h),
        fun h => K6 _ _ _ (by decide) hbw (nr h),
        fun h => K7 _ _ _ (by decide) hbw (nr h),
        fun h => K8 _ _ _ (by decide) hbw (nr h),
        fun h => K9 _ _ _ (by decide) hbw (nr h),
        fun _ => ⟨eval_put_self (by rw [hz]; decide), hbs, ⟨cs, BoxN.new _ _ _, hcz⟩, Nat.le_of_eq (World.size_alloc _ _).symm⟩,
        fun h => K11 _ _ _ (by decide) hbw (nr h),
        fun h => by have h' := (nr h); obtain ⟨g0, g1, g2, g3, g4⟩ := f12 h'; exact absurd g4 hnd,
        fun h => K13 _ hbw (nr h),
        fun h => K14 _ _ _ (by decide) hbw (nr h),
        fun h1 h2 => by have h' := (nr h1); obtain ⟨g0, g1, g2, g3⟩ := f3 h'; omega,
        fun h1 h2 => x1 (nr h1) (nr h2),
        fun h1 h2 => by have h' := (nr h1); obtain ⟨g0, g1, g2, g3, g4, g5, g6⟩ := f5 h'; omega,
        fun h1 h2 => by have h' := (nr h1); obtain ⟨g0, g1, g2, g3, g4, g5, g6⟩ := f5 h'; omega,
        fun h1 h2 => x4 (nr h1) (nr h2),
        fun h1 h2 => x5 (nr h1) (nr h2),
        fun h1 h2 => by have h' := (nr h2); obtain ⟨g0, g1, g2, g3⟩ := f11 h'; omega⟩
    · obtain ⟨cs, hal, hcz⟩ := allocIR w
      refine op_alloc o11 hal ?_
      have hbw : Below w.heap.size w (w.alloc (.cells cs 34)) := (Below.refl _ _).alloc (Nat.le_refl _) _
      have hb' := below_step hb hbw (Nat.le_refl _)
      exact ⟨hf.put (by decide) _, hb', P, w.heap.size, g, glo, ghi, ra, rcap, lo, hi, ra2, rcap2, lo2, hi2, fun h => K0 _ _ _ (by decide) hbw (nr h),
        fun h => K1 _ _ _ (by decide) hbw (nr h),
        fun h => K2 _ _ _ (by decide) hbw (nr h),
        fun h => K3 _ _ _ (by decide) hbw (nr h),
        fun h => K4 _ _ _ (by decide) hbw (nr h),
        fun h => K5 _ _ _ (by decide) hbw (nr h),
        fun h => K6 _ _ _ (by decide) hbw (nr h),
        fun h => K7 _ _ _ (by decide) hbw (nr h),
        fun h => K8 _ _ _ (by decide) hbw (nr h),
        fun h => K9 _ _ _ (by decide) hbw (nr h),
        fun h => K10 _ _ _ (by decide) hbw (nr h),
        fun _ => ⟨eval_put_self (by rw [hz]; decide), hbs, ⟨cs, BoxN.new _ _ _, hcz⟩, Nat.le_of_eq (World.size_alloc _ _).symm⟩,
        fun h => K12 _ hbw (nr h),
        fun h => by have h' := (nr h); obtain ⟨g0, g1, g2, g3, g4⟩ := f13 h'; exact absurd g4 hnd,
        fun h => K14 _ _ _ (by decide) hbw (nr h),
        fun h1 h2 => x0 (nr h1) (nr h2),
        fun h1 h2 => by have h' := (nr h1); obtain ⟨g0, g1, g2, g3⟩ := f3 h'; omega,
        fun h1 h2 => x2 (nr h1) (nr h2),
        fun h1 h2 => x3 (nr h1) (nr h2),
        fun h1 h2 => by have h' := (nr h1); obtain ⟨g0, g1, g2, g3, g4, g5, g6⟩ := f5 h'; omega,
        fun h1 h2 => by have h' := (nr h1); obtain ⟨g0, g1, g2, g3, g4, g5, g6⟩ := f5 h'; omega,
        fun h1 h2 => by have h' := (nr h1); obtain ⟨g0, g1, g2, g3⟩ := f10 h'; omega⟩
    · have d10 := waits u12_10 hdep
      obtain ⟨e10_0, e10_1, e10_2, e10_3⟩ := f10 d10
      have d7 := waits u12_7 hdep
      obtain ⟨e7_0, e7_1, e7_2⟩ := f7 d7
      obtain ⟨cs, hcs, hcz⟩ := e10_2
      obtain ⟨w', hst, hnew, hsp⟩ := storeIC hcs hcz
      refine op_store o12 e10_0 e7_0 hst ?_
      have hb' := hb.trans (hsp.below e10_1 hbs)
      exact ⟨hf, hb', P, Q', g, glo, ghi, ra, rcap, lo, hi, ra2, rcap2, lo2, hi2, fun h => by have h' := (nr h); have g0 := f0 h'; exact g0,
        fun h => by have h' := (nr h); have g0 := f1 h'; exact g0,
        fun h => by have h' := (nr h); have g0 := f2 h'; exact g0,
        fun h => by have h' := (nr h); have := x0 h' d10; obtain ⟨g0, g1, g2, g3⟩ := f3 h'; exact ⟨g0, (g1.span hsp (by omega)), g2, (Nat.le_trans g3 hsp.size)⟩,
        fun h => by have h' := (nr h); have g0 := f4 h'; exact g0,
        fun h => by have h' := (nr h); have := x2 h' d10; have := x3 h' d10; obtain ⟨g0, g1, g2, g3, g4, g5, g6⟩ := f5 h'; exact ⟨g0, (g1.span hsp (by omega)), (g2.span hsp (by omega)), g3, (Nat.le_trans g4 hsp.size), (Nat.le_trans g5 hsp.size), (Or.inr g6)⟩,
        fun h => by have h' := (nr h); obtain ⟨g0, g1, g2⟩ := f6 h'; exact ⟨g0, (Or.inr g1), (Or.inr g2)⟩,
        fun h => by have h' := (nr h); obtain ⟨g0, g1, g2⟩ := f7 h'; exact ⟨g0, (Or.inr g1), (Or.inr g2)⟩,
        fun h => by have h' := (nr h); obtain ⟨g0, g1, g2⟩ := f8 h'; exact ⟨g0, (Or.inr g1), (Or.inr g2)⟩,
        fun h => by have h' := (nr h); obtain ⟨g0, g1, g2⟩ := f9 h'; exact ⟨g0, (Or.inr g1), (Or.inr g2)⟩,
        fun h => by have h' := (nr h); obtain ⟨g0, g1, g2, g3⟩ := f10 h'; exact ⟨g0, g1, ⟨_, hnew, rfl⟩, (Nat.le_trans g3 hsp.size)⟩,
        fun h => by have h' := (nr h); have := x6 d10 h'; obtain ⟨g0, g1, g2, g3⟩ := f11 h'; exact ⟨g0, g1, (by obtain ⟨cs, hcs, hcz⟩ := g2; exact ⟨cs, hcs.span hsp (by omega), hcz⟩), (Nat.le_trans g3 hsp.size)⟩,
        fun _ => ⟨hnew, e10_1, Or.inr e7_1, Or.inr e7_2, Or.inr d10⟩,
        fun h => by have h' := (nr h); obtain ⟨g0, g1, g2, g3, g4⟩ := f13 h'; have := x6 d10 g4; exact ⟨(g0.span hsp (by omega)), g1, (Or.inr g2), (Or.inr g3), (Or.inr g4)⟩,
        fun h => by have h' := (nr h); obtain ⟨g0, g1, g2⟩ := f14 h'; exact ⟨g0, (Or.inr g1), (Or.inr g2)⟩,
        fun h1 h2 => x0 (nr h1) (nr h2),
        fun h1 h2 => x1 (nr h1) (nr h2),
        fun h1 h2 => x2 (nr h1) (nr h2),
        fun h1 h2 => x3 (nr h1) (nr h2),
        fun h1 h2 => x4 (nr h1) (nr h2),
        fun h1 h2 => x5 (nr h1) (nr h2),
        fun h1 h2 => x6 (nr h1) (nr h2)⟩
    · have d11 := waits u13_11 hdep
      obtain ⟨e11_0, e11_1, e11_2, e11_3⟩ := f11 d11
      have d8 := waits u13_8 hdep
      obtain ⟨e8_0, e8_1, e8_2⟩ := f8 d8
      obtain ⟨cs, hcs, hcz⟩ := e11_2
      obtain ⟨w', hst, hnew, hsp⟩ := storeIR hcs hcz
      refine op_store o13 e11_0 e8_0 hst ?_
      have hb' := hb.trans (hsp.below e11_1 hbs)
      exact ⟨hf, hb', P, Q', g, glo, ghi, ra, rcap, lo, hi, ra2, rcap2, lo2, hi2, fun h => by have h' := (nr h); have g0 := f0 h'; exact g0,
        fun h => by have h' := (nr h); have g0 := f1 h'; exact g0,
        fun h => by have h' := (nr h); have g0 := f2 h'; exact g0,
        fun h => by have h' := (nr h); have := x1 h' d11; obtain ⟨g0, g1, g2, g3⟩ := f3 h'; exact ⟨g0, (g1.span hsp (by omega)), g2, (Nat.le_trans g3 hsp.size)⟩,
        fun h => by have h' := (nr h); have g0 := f4 h'; exact g0,
        fun h => by have h' := (nr h); have := x4 h' d11; have := x5 h' d11; obtain ⟨g0, g1, g2, g3, g4, g5, g6⟩ := f5 h'; exact ⟨g0, (g1.span hsp (by omega)), (g2.span hsp (by omega)), g3, (Nat.le_trans g4 hsp.size), (Nat.le_trans g5 hsp.size), (Or.inr g6)⟩,
        fun h => by have h' := (nr h); obtain ⟨g0, g1, g2⟩ := f6 h'; exact ⟨g0, (Or.inr g1), (Or.inr g2)⟩,
        fun h => by have h' := (nr h); obtain ⟨g0, g1, g2⟩ := f7 h'; exact ⟨g0, (Or.inr g1), (Or.inr g2)⟩,
        fun h => by have h' := (nr h); obtain ⟨g0, g1, g2⟩ := f8 h'; exact ⟨g0, (Or.inr g1), (Or.inr g2)⟩,
        fun h => by have h' := (nr h); obtain ⟨g0, g1, g2⟩ := f9 h'; exact ⟨g0, (Or.inr g1), (Or.inr g2)⟩,
        fun h => by have h' := (nr h); have := x6 h' d11; obtain ⟨g0, g1, g2, g3⟩ := f10 h'; exact ⟨g0, g1, (by obtain ⟨cs, hcs, hcz⟩ := g2; exact ⟨cs, hcs.span hsp (by omega), hcz⟩), (Nat.le_trans g3 hsp.size)⟩,
        fun h => by have h' := (nr h); obtain ⟨g0, g1, g2, g3⟩ := f11 h'; exact ⟨g0, g1, ⟨_, hnew, rfl⟩, (Nat.le_trans g3 hsp.size)⟩,
        fun h => by have h' := (nr h); obtain ⟨g0, g1, g2, g3, g4⟩ := f12 h'; have := x6 g4 d11; exact ⟨(g0.span hsp (by omega)), g1, (Or.inr g2), (Or.inr g3), (Or.inr g4)⟩,
        fun _ => ⟨hnew, e11_1, Or.inr e8_1, Or.inr e8_2, Or.inr d11⟩,
        fun h => by have h' := (nr h); obtain ⟨g0, g1, g2⟩ := f14 h'; exact ⟨g0, (Or.inr g1), (Or.inr g2)⟩,
        fun h1 h2 => x0 (nr h1) (nr h2),
        fun h1 h2 => x1 (nr h1) (nr h2),
        fun h1 h2 => x2 (nr h1) (nr h2),
        fun h1 h2 => x3 (nr h1) (nr h2),
        fun h1 h2 => x4 (nr h1) (nr h2),
        fun h1 h2 => x5 (nr h1) (nr h2),
        fun h1 h2 => x6 (nr h1) (nr h2)⟩
    · have d9 := waits u14_9 hdep
      obtain ⟨e9_0, e9_1, e9_2⟩ := f9 d9
      refine op_assign o14 e9_0 ?_
      exact ⟨hf.put (by decide) _, hb, P, Q', g, glo, ghi, ra, rcap, lo, hi, ra2, rcap2, lo2, hi2, fun h => K0 _ _ _ (by decide) rf (nr h),
        fun h => K1 _ _ _ (by decide) rf (nr h),
        fun h => K2 _ _ _ (by decide) rf (nr h),
        fun h => K3 _ _ _ (by decide) rf (nr h),
        fun h => K4 _ _ _ (by decide) rf (nr h),
        fun h => K5 _ _ _ (by decide) rf (nr h),
        fun h => K6 _ _ _ (by decide) rf (nr h),
        fun h => K7 _ _ _ (by decide) rf (nr h),
        fun h => K8 _ _ _ (by decide) rf (nr h),
        fun h => K9 _ _ _ (by decide) rf (nr h),
        fun h => K10 _ _ _ (by decide) rf (nr h),
        fun h => K11 _ _ _ (by decide) rf (nr h),
        fun h => K12 _ rf (nr h),
        fun h => K13 _ rf (nr h),
        fun _ => ⟨eval_put_self (by rw [hz]; decide), Or.inr e9_1, Or.inr e9_2⟩,
        fun h1 h2 => x0 (nr h1) (nr h2),
        fun h1 h2 => x1 (nr h1) (nr h2),
        fun h1 h2 => x2 (nr h1) (nr h2),
        fun h1 h2 => x3 (nr h1) (nr h2),
        fun h1 h2 => x4 (nr h1) (nr h2),
        fun h1 h2 => x5 (nr h1) (nr h2),
        fun h1 h2 => x6 (nr h1) (nr h2)⟩
  · intro D a w hD hI
    obtain ⟨hf, hb, P, Q', g, glo, ghi, ra, rcap, lo, hi, ra2, rcap2, lo2, hi2, f0, f1, f2, f3, f4, f5, f6, f7, f8, f9, f10, f11, f12, f13, f14, x0, x1, x2, x3, x4, x5, x6⟩ := hI
    rw [hn] at hD
    have e0_0 := f0 (hD 0 (by decide))
    have e1_0 := f1 (hD 1 (by decide))
    have e2_0 := f2 (hD 2 (by decide))
    obtain ⟨e3_0, e3_1, e3_2, e3_3⟩ := f3 (hD 3 (by decide))
    have e4_0 := f4 (hD 4 (by decide))
    obtain ⟨e5_0, e5_1, e5_2, e5_3, e5_4, e5_5, e5_6⟩ := f5 (hD 5 (by decide))
    obtain ⟨e6_0, e6_1, e6_2⟩ := f6 (hD 6 (by decide))
    obtain ⟨e7_0, e7_1, e7_2⟩ := f7 (hD 7 (by decide))
    obtain ⟨e8_0, e8_1, e8_2⟩ := f8 (hD 8 (by decide))
    obtain ⟨e9_0, e9_1, e9_2⟩ := f9 (hD 9 (by decide))
    obtain ⟨e10_0, e10_1, e10_2, e10_3⟩ := f10 (hD 10 (by decide))
    obtain ⟨e11_0, e11_1, e11_2, e11_3⟩ := f11 (hD 11 (by decide))
    obtain ⟨e12_0, e12_1, e12_2, e12_3, e12_4⟩ := f12 (hD 12 (by decide))
    obtain ⟨e13_0, e13_1, e13_2, e13_3, e13_4⟩ := f13 (hD 13 (by decide))
    obtain ⟨e14_0, e14_1, e14_2⟩ := f14 (hD 14 (by decide))
    have y0 := x0 (hD 3 (by decide)) (hD 10 (by decide))
    have y1 := x1 (hD 3 (by decide)) (hD 11 (by decide))
    have y2 := x2 (hD 5 (by decide)) (hD 10 (by decide))
    have y3 := x3 (hD 5 (by decide)) (hD 10 (by decide))
    have y4 := x4 (hD 5 (by decide)) (hD 11 (by decide))
    have y5 := x5 (hD 5 (by decide)) (hD 11 (by decide))
    have y6 := x6 (hD 10 (by decide)) (hD 11 (by decide))
    have hw := hb.size
    obtain ⟨n1, n2, n3, n4, n5⟩ := e5_3
    exact hQ a w hf ⟨P, Q', ra, rcap, ra2, rcap2, lo, hi, lo2, hi2, e10_0, e11_0, e14_0, e12_0, e13_0, e5_1, e5_2, ⟨by omega, by omega, by omega, by omega, by omega, by omega, by omega, n3, n4, n5, by omega, by omega, by omega, by omega⟩, hb⟩
  · exact ⟨FrameIs.refl _ _, (Below.refl _ _).drew, 0, 0, 0, 0, 0, none, 0, 0, 0, none, 0, 0, 0, fun h => False.elim h, fun h => False.elim h, fun h => False.elim h, fun h => False.elim h, fun h => False.elim h, fun h => False.elim h, fun h => False.elim h, fun h => False.elim h, fun h => False.elim h, fun h => False.elim h, fun h => False.elim h, fun h => False.elim h, fun h => False.elim h, fun h => False.elim h, fun h => False.elim h, fun h => False.elim h, fun h => False.elim h, fun h => False.elim h, fun h => False.elim h, fun h => False.elim h, fun h => False.elim h, fun h => False.elim h⟩

theorem serveReg7_ops (ops : Array Oper) (h : regionOps 7 (Try.f3.body.getD .skip) = some ops) : backward ops = true ∧ ops.size = 14 ∧ IsOp ops 0 (some 39) (.load 26 (.tmp 3)) ∧ IsOp ops 1 (some 40) (.call ⟨.value (.func 7), #[.tmp 39], #[26]⟩) ∧ IsOp ops 2 (some 41) (.load 34 (.tmp 11)) ∧ IsOp ops 3 (some 42) (.move (.tmp 2)) ∧ IsOp ops 4 (some 43) (.call ⟨.value (.func 9), #[.tmp 40, .tmp 41, .tmp 42], #[33, 34, 4]⟩) ∧ IsOp ops 5 (some 38) (.move (.tmp 43)) ∧ IsOp ops 6 (some 44) (.extract (.tmp 38) 0) ∧ IsOp ops 7 (some 45) (.extract (.tmp 38) 1) ∧ IsOp ops 8 (some 46) (.extract (.tmp 38) 2) ∧ IsOp ops 9 (some 12) (.alloc 33) ∧ IsOp ops 10 (some 13) (.alloc 34) ∧ IsOp ops 11 none (.store 33 (.tmp 12) (.tmp 44)) ∧ IsOp ops 12 none (.store 34 (.tmp 13) (.tmp 45)) ∧ IsOp ops 13 (some 14) (.assign (.tmp 46)) ∧ Waits ops 1 0 ∧ Waits ops 4 1 ∧ Waits ops 4 2 ∧ Waits ops 4 3 ∧ Waits ops 5 4 ∧ Waits ops 6 5 ∧ Waits ops 7 5 ∧ Waits ops 8 5 ∧ Waits ops 11 9 ∧ Waits ops 11 6 ∧ Waits ops 12 10 ∧ Waits ops 12 7 ∧ Waits ops 13 8 := by
  obtain rfl : ops = (regionOps 7 (Try.f3.body.getD .skip)).getD #[] := by rw [h]; rfl
  exact ⟨by kernel_rfl, by kernel_rfl, by unfold IsOp; kernel_rfl, by unfold IsOp; kernel_rfl, by unfold IsOp; kernel_rfl, by unfold IsOp; kernel_rfl, by unfold IsOp; kernel_rfl, by unfold IsOp; kernel_rfl, by unfold IsOp; kernel_rfl, by unfold IsOp; kernel_rfl, by unfold IsOp; kernel_rfl, by unfold IsOp; kernel_rfl, by unfold IsOp; kernel_rfl, by unfold IsOp; kernel_rfl, by unfold IsOp; kernel_rfl, by unfold IsOp; kernel_rfl, by unfold Waits; kernel_rfl, by unfold Waits; kernel_rfl, by unfold Waits; kernel_rfl, by unfold Waits; kernel_rfl, by unfold Waits; kernel_rfl, by unfold Waits; kernel_rfl, by unfold Waits; kernel_rfl, by unfold Waits; kernel_rfl, by unfold Waits; kernel_rfl, by unfold Waits; kernel_rfl, by unfold Waits; kernel_rfl, by unfold Waits; kernel_rfl, by unfold Waits; kernel_rfl⟩

abbrev serveReg7_I (c : CpuN) (r : CpuN × BusN) (L : List Nat) (nmi : Bool) (xa : Option Addr) (xcap : Nat) (V : World) (a0 : Act) (D : Nat → Prop) (a : Act) (w : World) : Prop :=
  FrameIs a0 [12, 13, 14, 38, 39, 40, 41, 42, 43, 44, 45, 46] a ∧ Below V.heap.size V w ∧ ∃ (P : Nat) (Q' : Nat) (ra : Option Addr) (rcap : Nat) (lo : Nat) (hi : Nat) (ra2 : Option Addr) (rcap2 : Nat) (lo2 : Nat) (hi2 : Nat), (D 0 → a.eval (.tmp 39) = cpuV c) ∧ (D 1 → a.eval (.tmp 40) = cpuV c) ∧ (D 2 → a.eval (.tmp 41) = ramV (.slice xa L.length xcap)) ∧ (D 3 → a.eval (.tmp 42) = .bool nmi) ∧ (D 4 → a.eval (.tmp 43) = .tuple #[cpuV r.1, ramV (.slice ra r.2.mem.length rcap), .slice ra2 r.2.log.length rcap2] ∧ SegB w lo hi (.slice ra r.2.mem.length rcap) (r.2.mem) ∧ SegC w lo2 hi2 (.slice ra2 r.2.log.length rcap2) (r.2.log) ∧ (V.heap.size ≤ lo ∧ V.heap.size ≤ lo2 ∧ lo ≤ hi ∧ lo2 ≤ hi2 ∧ (hi ≤ lo2 ∨ hi2 ≤ lo)) ∧ hi ≤ w.heap.size ∧ hi2 ≤ w.heap.size) ∧ (D 5 → a.eval (.tmp 38) = .tuple #[cpuV r.1, ramV (.slice ra r.2.mem.length rcap), .slice ra2 r.2.log.length rcap2] ∧ D 4) ∧ (D 6 → a.eval (.tmp 44) = cpuV r.1 ∧ D 4) ∧ (D 7 → a.eval (.tmp 45) = ramV (.slice ra r.2.mem.length rcap) ∧ D 4) ∧ (D 8 → a.eval (.tmp 46) = .slice ra2 r.2.log.length rcap2 ∧ D 4) ∧ (D 9 → a.eval (.tmp 12) = .pointer (some ⟨P, 0, none⟩) ∧ (V.heap.size ≤ P) ∧ (∃ cs : Array Value, BoxN w P 33 cs ∧ cs.size = 11) ∧ P + 1 ≤ w.heap.size) ∧ (D 10 → a.eval (.tmp 13) = .pointer (some ⟨Q', 0, none⟩) ∧ (V.heap.size ≤ Q') ∧ (∃ cs : Array Value, BoxN w Q' 34 cs ∧ cs.size = 1) ∧ Q' + 1 ≤ w.heap.size) ∧ (D 11 → BoxN w P 33 (cpuCells r.1) ∧ (V.heap.size ≤ P) ∧ D 4 ∧ D 9) ∧ (D 12 → BoxN w Q' 34 #[.slice ra r.2.mem.length rcap] ∧ (V.heap.size ≤ Q') ∧ D 4 ∧ D 10) ∧ (D 13 → a.eval (.tmp 14) = .slice ra2 r.2.log.length rcap2 ∧ D 4) ∧ (D 4 → D 9 → (hi ≤ P ∨ P + 1 ≤ lo)) ∧ (D 4 → D 9 → (hi2 ≤ P ∨ P + 1 ≤ lo2)) ∧ (D 4 → D 10 → (hi ≤ Q' ∨ Q' + 1 ≤ lo)) ∧ (D 4 → D 10 → (hi2 ≤ Q' ∨ Q' + 1 ≤ lo2)) ∧ (D 9 → D 10 → (P + 1 ≤ Q' ∨ Q' + 1 ≤ P))

set_option maxRecDepth 100000 in
set_option maxHeartbeats 4000000 in
theorem serveReg7 (c : CpuN) (r : CpuN × BusN) (L : List Nat) (nmi : Bool) (xa : Option Addr) (xcap : Nat) (V : World) (C R : Nat) (hC : BoxN V C 26 (cpuCells c)) (hR : BoxN V R 34 #[.slice xa L.length xcap]) (hrow : RowB V xa L) (HS : ∀ (W : World), RowB W xa L → Calls Try.prog 9 #[cpuV c, ramV (.slice xa L.length xcap), .bool nmi] W (Stepped W r)) (a0 : Act) (h2 : a0.eval (.tmp 3) = .pointer (some ⟨C, 0, none⟩)) (h3 : a0.eval (.tmp 11) = .pointer (some ⟨R, 0, none⟩)) (h4 : a0.eval (.tmp 2) = .bool nmi) (hsz : a0.tmps.size = 149) (Q : Exit → Act → World → Prop)
    (hQ : ∀ a w, FrameIs a0 [12, 13, 14, 38, 39, 40, 41, 42, 43, 44, 45, 46] a → Took3 V r (a.eval (.tmp 12)) (a.eval (.tmp 13)) (a.eval (.tmp 14)) w → Q .normal a w)
    (ops : Array Oper) (hops : regionOps 7 (Try.f3.body.getD .skip) = some ops) (id : Nat) : (Code.region id ops true).wp Try.prog Q a0 V := by
  obtain ⟨hbk, hn, o0, o1, o2, o3, o4, o5, o6, o7, o8, o9, o10, o11, o12, o13, u1_0, u4_1, u4_2, u4_3, u5_4, u6_5, u7_5, u8_5, u11_9, u11_6, u12_10, u12_7, u13_8⟩ := serveReg7_ops ops hops
  clear hops
  refine wp_region_facts (by kernel_rfl) hbk (serveReg7_I c r L nmi xa xcap V a0) ?_ ?_ id a0 V ?_
  · intro i hin D a w hnd hdep hI
    obtain ⟨hf, hb, P, Q', ra, rcap, lo, hi, ra2, rcap2, lo2, hi2, f0, f1, f2, f3, f4, f5, f6, f7, f8, f9, f10, f11, f12, f13, x0, x1, x2, x3, x4⟩ := hI
    rw [hn] at hin
    have hz : a.tmps.size = 149 := hf.size.trans hsz
    have hbs := hb.size
    have rf := Below.refl w.heap.size w
    have K0 : ∀ (d : Nat) (v : Value) (w' : World), 39 ≠ d → Below w.heap.size w w' → D 0 → (a.put (some d) v).eval (.tmp 39) = cpuV c := fun d v w' hd hbw h => by have g0 := f0 h; exact ((eval_put_ne hd).trans g0)
    have K1 : ∀ (d : Nat) (v : Value) (w' : World), 40 ≠ d → Below w.heap.size w w' → D 1 → (a.put (some d) v).eval (.tmp 40) = cpuV c := fun d v w' hd hbw h => by have g0 := f1 h; exact ((eval_put_ne hd).trans g0)
    have K2 : ∀ (d : Nat) (v : Value) (w' : World), 41 ≠ d → Below w.heap.size w w' → D 2 → (a.put (some d) v).eval (.tmp 41) = ramV (.slice xa L.length xcap) := fun d v w' hd hbw h => by have g0 := f2 h; exact ((eval_put_ne hd).trans g0)
    have K3 : ∀ (d : Nat) (v : Value) (w' : World), 42 ≠ d → Below w.heap.size w w' → D 3 → (a.put (some d) v).eval (.tmp 42) = .bool nmi := fun d v w' hd hbw h => by have g0 := f3 h; exact ((eval_put_ne hd).trans g0)
    have K4 : ∀ (d : Nat) (v : Value) (w' : World), 43 ≠ d → Below w.heap.size w w' → D 4 → (a.put (some d) v).eval (.tmp 43) = .tuple #[cpuV r.1, ramV (.slice ra r.2.mem.length rcap), .slice ra2 r.2.log.length rcap2] ∧ SegB w' lo hi (.slice ra r.2.mem.length rcap) (r.2.mem) ∧ SegC w' lo2 hi2 (.slice ra2 r.2.log.length rcap2) (r.2.log) ∧ (V.heap.size ≤ lo ∧ V.heap.size ≤ lo2 ∧ lo ≤ hi ∧ lo2 ≤ hi2 ∧ (hi ≤ lo2 ∨ hi2 ≤ lo)) ∧ hi ≤ w'.heap.size ∧ hi2 ≤ w'.heap.size := fun d v w' hd hbw h => by obtain ⟨g0, g1, g2, g3, g4, g5⟩ := f4 h; exact ⟨((eval_put_ne hd).trans g0), (g1.below hbw), (g2.below hbw), g3, (Nat.le_trans g4 hbw.size), (Nat.le_trans g5 hbw.size)⟩
    have K5 : ∀ (d : Nat) (v : Value) (w' : World), 38 ≠ d → Below w.heap.size w w' → D 5 → (a.put (some d) v).eval (.tmp 38) = .tuple #[cpuV r.1, ramV (.slice ra r.2.mem.length rcap), .slice ra2 r.2.log.length rcap2] ∧ (4 = i ∨ D 4) := fun d v w' hd hbw h => by obtain ⟨g0, g1⟩ := f5 h; exact ⟨((eval_put_ne hd).trans g0), (Or.inr g1)⟩
    have K6 : ∀ (d : Nat) (v : Value) (w' : World), 44 ≠ d → Below w.heap.size w w' → D 6 → (a.put (some d) v).eval (.tmp 44) = cpuV r.1 ∧ (4 = i ∨ D 4) := fun d v w' hd hbw h => by obtain ⟨g0, g1⟩ := f6 h; exact ⟨((eval_put_ne hd).trans g0), (Or.inr g1)⟩
    have K7 : ∀ (d : Nat) (v : Value) (w' : World), 45 ≠ d → Below w.heap.size w w' → D 7 → (a.put (some d) v).eval (.tmp 45) = ramV (.slice ra r.2.mem.length rcap) ∧ (4 = i ∨ D 4) := fun d v w' hd hbw h => by obtain ⟨g0, g1⟩ := f7 h; exact ⟨((eval_put_ne hd).trans g0), (Or.inr g1)⟩
    have K8 : ∀ (d : Nat) (v : Value) (w' : World), 46 ≠ d → Below w.heap.size w w' → D 8 → (a.put (some d) v).eval (.tmp 46) = .slice ra2 r.2.log.length rcap2 ∧ (4 = i ∨ D 4) := fun d v w' hd hbw h => by obtain ⟨g0, g1⟩ := f8 h; exact ⟨((eval_put_ne hd).trans g0), (Or.inr g1)⟩
    have K9 : ∀ (d : Nat) (v : Value) (w' : World), 12 ≠ d → Below w.heap.size w w' → D 9 → (a.put (some d) v).eval (.tmp 12) = .pointer (some ⟨P, 0, none⟩) ∧ (V.heap.size ≤ P) ∧ (∃ cs : Array Value, BoxN w' P 33 cs ∧ cs.size = 11) ∧ P + 1 ≤ w'.heap.size := fun d v w' hd hbw h => by obtain ⟨g0, g1, g2, g3⟩ := f9 h; exact ⟨((eval_put_ne hd).trans g0), g1, (by obtain ⟨cs, hcs, hcz⟩ := g2; exact ⟨cs, hcs.below hbw, hcz⟩), (Nat.le_trans g3 hbw.size)⟩
    have K10 : ∀ (d : Nat) (v : Value) (w' : World), 13 ≠ d → Below w.heap.size w w' → D 10 → (a.put (some d) v).eval (.tmp 13) = .pointer (some ⟨Q', 0, none⟩) ∧ (V.heap.size ≤ Q') ∧ (∃ cs : Array Value, BoxN w' Q' 34 cs ∧ cs.size = 1) ∧ Q' + 1 ≤ w'.heap.size := fun d v w' hd hbw h => by obtain ⟨g0, g1, g2, g3⟩ := f10 h; exact ⟨((eval_put_ne hd).trans g0), g1, (by obtain ⟨cs, hcs, hcz⟩ := g2; exact ⟨cs, hcs.below hbw, hcz⟩), (Nat.le_trans g3 hbw.size)⟩
    have K11 : ∀ (w' : World), Below w.heap.size w w' → D 11 → BoxN w' P 33 (cpuCells r.1) ∧ (V.heap.size ≤ P) ∧ (4 = i ∨ D 4) ∧ (9 = i ∨ D 9) := fun w' hbw h => by obtain ⟨g0, g1, g2, g3⟩ := f11 h; exact ⟨(g0.below hbw), g1, (Or.inr g2), (Or.inr g3)⟩
    have K12 : ∀ (w' : World), Below w.heap.size w w' → D 12 → BoxN w' Q' 34 #[.slice ra r.2.mem.length rcap] ∧ (V.heap.size ≤ Q') ∧ (4 = i ∨ D 4) ∧ (10 = i ∨ D 10) := fun w' hbw h => by obtain ⟨g0, g1, g2, g3⟩ := f12 h; exact ⟨(g0.below hbw), g1, (Or.inr g2), (Or.inr g3)⟩
    have K13 : ∀ (d : Nat) (v : Value) (w' : World), 14 ≠ d → Below w.heap.size w w' → D 13 → (a.put (some d) v).eval (.tmp 14) = .slice ra2 r.2.log.length rcap2 ∧ (4 = i ∨ D 4) := fun d v w' hd hbw h => by obtain ⟨g0, g1⟩ := f13 h; exact ⟨((eval_put_ne hd).trans g0), (Or.inr g1)⟩
    obtain (rfl | rfl | rfl | rfl | rfl | rfl | rfl | rfl | rfl | rfl | rfl | rfl | rfl | rfl) : i = 0 ∨ i = 1 ∨ i = 2 ∨ i = 3 ∨ i = 4 ∨ i = 5 ∨ i = 6 ∨ i = 7 ∨ i = 8 ∨ i = 9 ∨ i = 10 ∨ i = 11 ∨ i = 12 ∨ i = 13 := by omega
    · refine op_load o0 ((hf.eval (by decide)).trans h2) (loadLC (hC.below hb)) ?_
      exact ⟨hf.put (by decide) _, hb, P, Q', ra, rcap, lo, hi, ra2, rcap2, lo2, hi2, fun _ => eval_put_self (by rw [hz]; decide),
        fun h => K1 _ _ _ (by decide) rf (nr h),
        fun h => K2 _ _ _ (by decide) rf (nr h),
        fun h => K3 _ _ _ (by decide) rf (nr h),
        fun h => K4 _ _ _ (by decide) rf (nr h),
        fun h => K5 _ _ _ (by decide) rf (nr h),
        fun h => K6 _ _ _ (by decide) rf (nr h),
        fun h => K7 _ _ _ (by decide) rf (nr h),
        fun h => K8 _ _ _ (by decide) rf (nr h),
        fun h => K9 _ _ _ (by decide) rf (nr h),
        fun h => K10 _ _ _ (by decide) rf (nr h),
        fun h => K11 _ rf (nr h),
        fun h => K12 _ rf (nr h),
        fun h => K13 _ _ _ (by decide) rf (nr h),
        fun h1 h2 => x0 (nr h1) (nr h2),
        fun h1 h2 => x1 (nr h1) (nr h2),
        fun h1 h2 => x2 (nr h1) (nr h2),
        fun h1 h2 => x3 (nr h1) (nr h2),
        fun h1 h2 => x4 (nr h1) (nr h2)⟩
    · have d0 := waits u1_0 hdep
      have e0_0 := f0 d0
      refine op_call o1 (by simp only [List.map_toArray, List.map_cons, List.map_nil, eval_const, e0_0]) rfl ((toCpu_any c _).mono ?_)
      rintro e w' ⟨rfl, hbw⟩
      have hbz := hbw.size
      have hb' := below_step hb hbw (Nat.le_refl _)
      refine ⟨_, rfl, ?_⟩
      exact ⟨hf.put (by decide) _, hb', P, Q', ra, rcap, lo, hi, ra2, rcap2, lo2, hi2, fun h => K0 _ _ _ (by decide) hbw (nr h),
        fun _ => eval_put_self (by rw [hz]; decide),
        fun h => K2 _ _ _ (by decide) hbw (nr h),
        fun h => K3 _ _ _ (by decide) hbw (nr h),
        fun h => K4 _ _ _ (by decide) hbw (nr h),
        fun h => K5 _ _ _ (by decide) hbw (nr h),
        fun h => K6 _ _ _ (by decide) hbw (nr h),
        fun h => K7 _ _ _ (by decide) hbw (nr h),
        fun h => K8 _ _ _ (by decide) hbw (nr h),
        fun h => K9 _ _ _ (by decide) hbw (nr h),
        fun h => K10 _ _ _ (by decide) hbw (nr h),
        fun h => K11 _ hbw (nr h),
        fun h => K12 _ hbw (nr h),
        fun h => K13 _ _ _ (by decide) hbw (nr h),
        fun h1 h2 => x0 (nr h1) (nr h2),
        fun h1 h2 => x1 (nr h1) (nr h2),
        fun h1 h2 => x2 (nr h1) (nr h2),
        fun h1 h2 => x3 (nr h1) (nr h2),
        fun h1 h2 => x4 (nr h1) (nr h2)⟩
    · refine op_load o2 ((hf.eval (by decide)).trans h3) (loadIR (hR.below hb)) ?_
      exact ⟨hf.put (by decide) _, hb, P, Q', ra, rcap, lo, hi, ra2, rcap2, lo2, hi2, fun h => K0 _ _ _ (by decide) rf (nr h),
        fun h => K1 _ _ _ (by decide) rf (nr h),
        fun _ => eval_put_self (by rw [hz]; decide),
        fun h => K3 _ _ _ (by decide) rf (nr h),
        fun h => K4 _ _ _ (by decide) rf (nr h),
        fun h => K5 _ _ _ (by decide) rf (nr h),
        fun h => K6 _ _ _ (by decide) rf (nr h),
        fun h => K7 _ _ _ (by decide) rf (nr h),
        fun h => K8 _ _ _ (by decide) rf (nr h),
        fun h => K9 _ _ _ (by decide) rf (nr h),
        fun h => K10 _ _ _ (by decide) rf (nr h),
        fun h => K11 _ rf (nr h),
        fun h => K12 _ rf (nr h),
        fun h => K13 _ _ _ (by decide) rf (nr h),
        fun h1 h2 => x0 (nr h1) (nr h2),
        fun h1 h2 => x1 (nr h1) (nr h2),
        fun h1 h2 => x2 (nr h1) (nr h2),
        fun h1 h2 => x3 (nr h1) (nr h2),
        fun h1 h2 => x4 (nr h1) (nr h2)⟩
    · refine op_move o3 ((hf.eval (by decide)).trans h4) ?_
      exact ⟨hf.put (by decide) _, hb, P, Q', ra, rcap, lo, hi, ra2, rcap2, lo2, hi2, fun h => K0 _ _ _ (by decide) rf (nr h),
        fun h => K1 _ _ _ (by decide) rf (nr h),
        fun h => K2 _ _ _ (by decide) rf (nr h),
        fun _ => eval_put_self (by rw [hz]; decide),
        fun h => K4 _ _ _ (by decide) rf (nr h),
        fun h => K5 _ _ _ (by decide) rf (nr h),
        fun h => K6 _ _ _ (by decide) rf (nr h),
        fun h => K7 _ _ _ (by decide) rf (nr h),
        fun h => K8 _ _ _ (by decide) rf (nr h),
        fun h => K9 _ _ _ (by decide) rf (nr h),
        fun h => K10 _ _ _ (by decide) rf (nr h),
        fun h => K11 _ rf (nr h),
        fun h => K12 _ rf (nr h),
        fun h => K13 _ _ _ (by decide) rf (nr h),
        fun h1 h2 => x0 (nr h1) (nr h2),
        fun h1 h2 => x1 (nr h1) (nr h2),
        fun h1 h2 => x2 (nr h1) (nr h2),
        fun h1 h2 => x3 (nr h1) (nr h2),
        fun h1 h2 => x4 (nr h1) (nr h2)⟩
    · have d1 := waits u4_1 hdep
      have e1_0 := f1 d1
      have d2 := waits u4_2 hdep
      have e2_0 := f2 d2
      have d3 := waits u4_3 hdep
      have e3_0 := f3 d3
      refine op_call o4 (by simp only [List.map_toArray, List.map_cons, List.map_nil, eval_const, e1_0, e2_0, e3_0]) rfl ((HS w (RowB.below hrow hb)).mono ?_)
      rintro e w' hst
      obtain ⟨ya, ycap, ya2, ycap2, ylo, yhi, ylo2, yhi2, rfl, sm, sc, ⟨q1, q2, q3, q4, q5, q6, q7⟩, hbw⟩ := hst.three
      have hbz := hbw.size
      have hb' := below_step hb hbw (Nat.le_refl _)
      refine ⟨_, rfl, ?_⟩
      exact ⟨hf.put (by decide) _, hb', P, Q', ya, ycap, ylo, yhi, ya2, ycap2, ylo2, yhi2, fun h => K0 _ _ _ (by decide) hbw (nr h),
        fun h => K1 _ _ _ (by decide) hbw (nr h),
        fun h => K2 _ _ _ (by decide) hbw (nr h),
        fun h => K3 _ _ _ (by decide) hbw (nr h),
        fun _ => ⟨eval_put_self (by rw [hz]; decide), sm, sc, ⟨by omega, by omega, q5, q6, q7⟩, q2, q4⟩,
        fun h => by have h' := (nr h); obtain ⟨g0, g1⟩ := f5 h'; exact absurd g1 hnd,
        fun h => by have h' := (nr h); obtain ⟨g0, g1⟩ := f6 h'; exact absurd g1 hnd,
        fun h => by have h' := (nr h); obtain ⟨g0, g1⟩ := f7 h'; exact absurd g1 hnd,
        fun h => by have h' := (nr h); obtain ⟨g0, g1⟩ := f8 h'; exact absurd g1 hnd,
        fun h => K9 _ _ _ (by decide) hbw (nr h),
        fun h => K10 _ _ _ (by decide) hbw (nr h),
        fun h => by have h' := (nr h); obtain ⟨g0, g1, g2, g3⟩ := f11 h'; exact absurd g2 hnd,
        fun h => by have h' := (nr h); obtain ⟨g0, g1, g2, g3⟩ := f12 h'; exact absurd g2 hnd,
        fun h => by have h' := (nr h); obtain ⟨g0, g1⟩ := f13 h'; exact absurd g1 hnd,
        fun h1 h2 => by have h' := (nr h2); obtain ⟨g0, g1, g2, g3⟩ := f9 h'; omega,
        fun h1 h2 => by have h' := (nr h2); obtain ⟨g0, g1, g2, g3⟩ := f9 h'; omega,
        fun h1 h2 => by have h' := (nr h2); obtain ⟨g0, g1, g2, g3⟩ := f10 h'; omega,
        fun h1 h2 => by have h' := (nr h2); obtain ⟨g0, g1, g2, g3⟩ := f10 h'; omega,
        fun h1 h2 => x4 (nr h1) (nr h2)⟩
    · have d4 := waits u5_4 hdep
      obtain ⟨e4_0, e4_1, e4_2, e4_3, e4_4, e4_5⟩ := f4 d4
      refine op_move o5 e4_0 ?_
      exact ⟨hf.put (by decide) _, hb, P, Q', ra, rcap, lo, hi, ra2, rcap2, lo2, hi2, fun h => K0 _ _ _ (by decide) rf (nr h),
        fun h => K1 _ _ _ (by decide) rf (nr h),
        fun h => K2 _ _ _ (by decide) rf (nr h),
        fun h => K3 _ _ _ (by decide) rf (nr h),
        fun h => K4 _ _ _ (by decide) rf (nr h),
        fun _ => ⟨eval_put_self (by rw [hz]; decide), Or.inr d4⟩,
        fun h => K6 _ _ _ (by decide) rf (nr h),
        fun h => K7 _ _ _ (by decide) rf (nr h),
        fun h => K8 _ _ _ (by decide) rf (nr h),
        fun h => K9 _ _ _ (by decide) rf (nr h),
        fun h => K10 _ _ _ (by decide) rf (nr h),
        fun h => K11 _ rf (nr h),
        fun h => K12 _ rf (nr h),
        fun h => K13 _ _ _ (by decide) rf (nr h),
        fun h1 h2 => x0 (nr h1) (nr h2),
        fun h1 h2 => x1 (nr h1) (nr h2),
        fun h1 h2 => x2 (nr h1) (nr h2),
        fun h1 h2 => x3 (nr h1) (nr h2),
        fun h1 h2 => x4 (nr h1) (nr h2)⟩
    · have d5 := waits u6_5 hdep
      obtain ⟨e5_0, e5_1⟩ := f5 d5
      refine op_extract o6 e5_0 (by rfl) ?_
      exact ⟨hf.put (by decide) _, hb, P, Q', ra, rcap, lo, hi, ra2, rcap2, lo2, hi2, fun h => K0 _ _ _ (by decide) rf (nr h),
        fun h => K1 _ _ _ (by decide) rf (nr h),
        fun h => K2 _ _ _ (by decide) rf (nr h),
        fun h => K3 _ _ _ (by decide) rf (nr h),
        fun h => K4 _ _ _ (by decide) rf (nr h),
        fun h => K5 _ _ _ (by decide) rf (nr h),
        fun _ => ⟨eval_put_self (by rw [hz]; decide), Or.inr e5_1⟩,
        fun h => K7 _ _ _ (by decide) rf (nr h),
        fun h => K8 _ _ _ (by decide) rf (nr h),
        fun h => K9 _ _ _ (by decide) rf (nr h),
        fun h => K10 _ _ _ (by decide) rf (nr h),
        fun h => K11 _ rf (nr h),
        fun h => K12 _ rf (nr h),
        fun h => K13 _ _ _ (by decide) rf (nr h),
        fun h1 h2 => x0 (nr h1) (nr h2),
        fun h1 h2 => x1 (nr h1) (nr h2),
        fun h1 h2 => x2 (nr h1) (nr h2),
        fun h1 h2 => x3 (nr h1) (nr h2),
        fun h1 h2 => x4 (nr h1) (nr h2)⟩
    · have d5 := waits u7_5 hdep
      obtain ⟨e5_0, e5_1⟩ := f5 d5
      refine op_extract o7 e5_0 (by rfl) ?_
      exact ⟨hf.put (by decide) _, hb, P, Q', ra, rcap, lo, hi, ra2, rcap2, lo2, hi2, fun h => K0 _ _ _ (by decide) rf (nr h),
        fun h => K1 _ _ _ (by decide) rf (nr h),
        fun h => K2 _ _ _ (by decide) rf (nr h),
        fun h => K3 _ _ _ (by decide) rf (nr h),
        fun h => K4 _ _ _ (by decide) rf (nr h),
        fun h => K5 _ _ _ (by decide) rf (nr h),
        fun h => K6 _ _ _ (by decide) rf (nr h),
        fun _ => ⟨eval_put_self (by rw [hz]; decide), Or.inr e5_1⟩,
        fun h => K8 _ _ _ (by decide) rf (nr h),
        fun h => K9 _ _ _ (by decide) rf (nr h),
        fun h => K10 _ _ _ (by decide) rf (nr h),
        fun h => K11 _ rf (nr h),
        fun h => K12 _ rf (nr h),
        fun h => K13 _ _ _ (by decide) rf (nr h),
        fun h1 h2 => x0 (nr h1) (nr h2),
        fun h1 h2 => x1 (nr h1) (nr h2),
        fun h1 h2 => x2 (nr h1) (nr h2),
        fun h1 h2 => x3 (nr h1) (nr h2),
        fun h1 h2 => x4 (nr h1) (nr h2)⟩
    · have d5 := waits u8_5 hdep
      obtain ⟨e5_0, e5_1⟩ := f5 d5
      refine op_extract o8 e5_0 (by rfl) ?_
      exact ⟨hf.put (by decide) _, hb, P, Q', ra, rcap, lo, hi, ra2, rcap2, lo2, hi2, fun h => K0 _ _ _ (by decide) rf (nr h),
        fun h => K1 _ _ _ (by decide) rf (nr h),
        fun h => K2 _ _ _ (by decide) rf (nr h),
        fun h => K3 _ _ _ (by decide) rf (nr h),
        fun h => K4 _ _ _ (by decide) rf (nr h),
        fun h => K5 _ _ _ (by decide) rf (nr h),
        fun h => K6 _ _ _ (by decide) rf (nr h),
        fun h => K7 _ _ _ (by decide) rf (nr h),
        fun _ => ⟨eval_put_self (by rw [hz]; decide), Or.inr e5_1⟩,
        fun h => K9 _ _ _ (by decide) rf (nr h),
        fun h => K10 _ _ _ (by decide) rf (nr h),
        fun h => K11 _ rf (nr h),
        fun h => K12 _ rf (nr h),
        fun h => K13 _ _ _ (by decide) rf (nr h),
        fun h1 h2 => x0 (nr h1) (nr h2),
        fun h1 h2 => x1 (nr h1) (nr h2),
        fun h1 h2 => x2 (nr h1) (nr h2),
        fun h1 h2 => x3 (nr h1) (nr h2),
        fun h1 h2 => x4 (nr h1) (nr h2)⟩
    · obtain ⟨cs, hal, hcz⟩ := allocIC w
      refine op_alloc o9 hal ?_
      have hbw : Below w.heap.size w (w.alloc (.cells cs 33)) := (Below.refl _ _).alloc (Nat.le_refl _) _
      have hb' := below_step hb hbw (Nat.le_refl _)
      exact ⟨hf.put (by decide) _, hb', w.heap.size, Q', ra, rcap, lo, hi, ra2, rcap2, lo2, hi2, fun h => K0 _ _ _ (by decide) hbw (nr h),
        fun h => K1 _ _ _ (by decide) hbw (nr h),
        fun h => K2 _ _ _ (by decide) hbw (nr h),
        fun h => K3 _ _ _ (by decide) hbw (nr h),
        fun h => K4 _ _ _ (by decide) hbw (nr h),
        fun h => K5 _ _ _ (by decide) hbw (nr h),
        fun h => K6 _ _ _ (by decide) hbw (nr h),
        fun h => K7 _ _ _ (by decide) hbw (nr h),
        fun h => K8 _ _ _ (by decide) hbw (nr h),
        fun _ => ⟨eval_put_self (by rw [hz]; decide), hbs, ⟨cs, BoxN.new _ _ _, hcz⟩, Nat.le_of_eq (World.size_alloc _ _).symm⟩,
        fun h => K10 _ _ _ (by decide) hbw (nr h),
        fun h => by have h' := (nr h); obtain ⟨g0, g1, g2, g3⟩ := f11 h'; exact absurd g3 hnd,
        fun h => K12 _ hbw (nr h),
        fun h => K13 _ _ _ (by decide) hbw (nr h),
        fun h1 h2 => by have h' := (nr h1); obtain ⟨g0, g1, g2, g3, g4, g5⟩ := f4 h'; omega,
        fun h1 h2 => by have h' := (nr h1); obtain ⟨g0, g1, g2, g3, g4, g5⟩ := f4 h'; omega,
        fun h1 h2 => x2 (nr h1) (nr h2),
        fun h1 h2 => x3 (nr h1) (nr h2),
        fun h1 h2 => by have h' := (nr h2); obtain ⟨g0, g1, g2, g3⟩ := f10 h'; omega⟩
    · obtain ⟨cs, hal, hcz⟩ := allocIR w
      refine op_alloc o10 hal ?_
      have hbw : Below w.heap.size w (w.alloc (.cells cs 34)) := (Below.refl _ _).alloc (Nat.le_refl _) _
      have hb' := below_step hb hbw (Nat.le_refl _)
      exact ⟨hf.put (by decide) _, hb', P, w.heap.size, ra, rcap, lo, hi, ra2, rcap2, lo2, hi2, fun h => K0 _ _ _ (by decide) hbw (nr h),
        fun h => K1 _ _ _ (by decide) hbw (nr h),
        fun h => K2 _ _ _ (by decide) hbw (nr h),
        fun h => K3 _ _ _ (by decide) hbw (nr h),
        fun h => K4 _ _ _ (by decide) hbw (nr h),
        fun h => K5 _ _ _ (by decide) hbw (nr h),
        fun h => K6 _ _ _ (by decide) hbw (nr h),
        fun h => K7 _ _ _ (by decide) hbw (nr h),
        fun h => K8 _ _ _ (by decide) hbw (nr h),
        fun h => K9 _ _ _ (by decide) hbw (nr h),
        fun _ => ⟨eval_put_self (by rw [hz]; decide), hbs, ⟨cs, BoxN.new _ _ _, hcz⟩, Nat.le_of_eq (World.size_alloc _ _).symm⟩,
        fun h => K11 _ hbw (nr h),
        fun h => by have h' := (nr h); obtain ⟨g0, g1, g2, g3⟩ := f12 h'; exact absurd g3 hnd,
        fun h => K13 _ _ _ (by decide) hbw (nr h),
        fun h1 h2 => x0 (nr h1) (nr h2),
        fun h1 h2 => x1 (nr h1) (nr h2),
        fun h1 h2 => by have h' := (nr h1); obtain ⟨g0, g1, g2, g3, g4, g5⟩ := f4 h'; omega,
        fun h1 h2 => by have h' := (nr h1); obtain ⟨g0, g1, g2, g3, g4, g5⟩ := f4 h'; omega,
        fun h1 h2 => by have h' := (nr h1); obtain ⟨g0, g1, g2, g3⟩ := f9 h'; omega⟩
    · have d9 := waits u11_9 hdep
      obtain ⟨e9_0, e9_1, e9_2, e9_3⟩ := f9 d9
      have d6 := waits u11_6 hdep
      obtain ⟨e6_0, e6_1⟩ := f6 d6
      obtain ⟨cs, hcs, hcz⟩ := e9_2
      obtain ⟨w', hst, hnew, hsp⟩ := storeIC hcs hcz
      refine op_store o11 e9_0 e6_0 hst ?_
      have hb' := hb.trans (hsp.below e9_1 hbs)
      exact ⟨hf, hb', P, Q', ra, rcap, lo, hi, ra2, rcap2, lo2, hi2, fun h => by have h' := (nr h); have g0 := f0 h'; exact g0,
        fun h => by have h' := (nr h); have g0 := f1 h'; exact g0,
        fun h => by have h' := (nr h); have g0 := f2 h'; exact g0,
        fun h => by have h' := (nr h); have g0 := f3 h'; exact g0,
        fun h => by have h' := (nr h); have := x0 h' d9; have := x1 h' d9; obtain ⟨g0, g1, g2, g3, g4, g5⟩ := f4 h'; exact ⟨g0, (g1.span hsp (by omega)), (g2.span hsp (by omega)), g3, (Nat.le_trans g4 hsp.size), (Nat.le_trans g5 hsp.size)⟩,
        fun h => by have h' := (nr h); obtain ⟨g0, g1⟩ := f5 h'; exact ⟨g0, (Or.inr g1)⟩,
        fun h => by have h' := (nr h); obtain ⟨g0, g1⟩ := f6 h'; exact ⟨g0, (Or.inr g1)⟩,
        fun h => by have h' := (nr h); obtain ⟨g0, g1⟩ := f7 h'; exact ⟨g0, (Or.inr g1)⟩,
        fun h => by have h' := (nr h); obtain ⟨g0, g1⟩ := f8 h'; exact ⟨g0, (Or.inr g1)⟩,
        fun h => by have h' := (nr h); obtain ⟨g0, g1, g2, g3⟩ := f9 h'; exact ⟨g0, g1, ⟨_, hnew, rfl⟩, (Nat.le_trans g3 hsp.size)⟩,
        fun h => by have h' := (nr h); have := x4 d9 h'; obtain ⟨g0, g1, g2, g3⟩ := f10 h'; exact ⟨g0, g1, (by obtain ⟨cs, hcs, hcz⟩ := g2; exact ⟨cs, hcs.span hsp (by omega), hcz⟩), (Nat.le_trans g3 hsp.size)⟩,
        fun _ => ⟨hnew, e9_1, Or.inr e6_1, Or.inr d9⟩,
        fun h => by have h' := (nr h); obtain ⟨g0, g1, g2, g3⟩ := f12 h'; have := x4 d9 g3; exact ⟨(g0.span hsp (by omega)), g1, (Or.inr g2), (Or.inr g3)⟩,
        fun h => by have h' := (nr h); obtain ⟨g0, g1⟩ := f13 h'; exact ⟨g0, (Or.inr g1)⟩,
        fun h1 h2 => x0 (nr h1) (nr h2),
        fun h1 h2 => x1 (nr h1) (nr h2),
        fun h1 h2 => x2 (nr h1) (nr h2),
        fun h1 h2 => x3 (nr h1) (nr h2),
        fun h1 h2 => x4 (nr h1) (nr h2)⟩
    · have d10 := waits u12_10 hdep
      obtain ⟨e10_0, e10_1, e10_2, e10_3⟩ := f10 d10
      have d7 := waits u12_7 hdep
      obtain ⟨e7_0, e7_1⟩ := f7 d7
      obtain ⟨cs, hcs, hcz⟩ := e10_2
      obtain ⟨w', hst, hnew, hsp⟩ := storeIR hcs hcz
      refine op_store o12 e10_0 e7_0 hst ?_
      have hb' := hb.trans (hsp.below e10_1 hbs)
      exact ⟨hf, hb', P, Q', ra, rcap, lo, hi, ra2, rcap2, lo2, hi2, fun h => by have h' := (nr h); have g0 := f0 h'; exact g0,
        fun h => by have h' := (nr h); have g0 := f1 h'; exact g0,
        fun h => by have h' := (nr h); have g0 := f2 h'; exact g0,
        fun h => by have h' := (nr h); have g0 := f3 h'; exact g0,
        fun h => by have h' := (nr h); have := x2 h' d10; have := x3 h' d10; obtain ⟨g0, g1, g2, g3, g4, g5⟩ := f4 h'; exact ⟨g0, (g1.span hsp (by omega)), (g2.span hsp (by omega)), g3, (Nat.le_trans g4 hsp.size), (Nat.le_trans g5 hsp.size)⟩,
        fun h => by have h' := (nr h); obtain ⟨g0, g1⟩ := f5 h'; exact ⟨g0, (Or.inr g1)⟩,
        fun h => by have h' := (nr h); obtain ⟨g0, g1⟩ := f6 h'; exact ⟨g0, (Or.inr g1)⟩,
        fun h => by have h' := (nr h); obtain ⟨g0, g1⟩ := f7 h'; exact ⟨g0, (Or.inr g1)⟩,
        fun h => by have h' := (nr h); obtain ⟨g0, g1⟩ := f8 h'; exact ⟨g0, (Or.inr g1)⟩,
        fun h => by have h' := (nr h); have := x4 h' d10; obtain ⟨g0, g1, g2, g3⟩ := f9 h'; exact ⟨g0, g1, (by obtain ⟨cs, hcs, hcz⟩ := g2; exact ⟨cs, hcs.span hsp (by omega), hcz⟩), (Nat.le_trans g3 hsp.size)⟩,
        fun h => by have h' := (nr h); obtain ⟨g0, g1, g2, g3⟩ := f10 h'; exact ⟨g0, g1, ⟨_, hnew, rfl⟩, (Nat.le_trans g3 hsp.size)⟩,
        fun h => by have h' := (nr h); obtain ⟨g0, g1, g2, g3⟩ := f11 h'; have := x4 g3 d10; exact ⟨(g0.span hsp (by omega)), g1, (Or.inr g2), (Or.inr g3)⟩,
        fun _ => ⟨hnew, e10_1, Or.inr e7_1, Or.inr d10⟩,
        fun h => by have h' := (nr h); obtain ⟨g0, g1⟩ := f13 h'; exact ⟨g0, (Or.inr g1)⟩,
        fun h1 h2 => x0 (nr h1) (nr h2),
        fun h1 h2 => x1 (nr h1) (nr h2),
        fun h1 h2 => x2 (nr h1) (nr h2),
        fun h1 h2 => x3 (nr h1) (nr h2),
        fun h1 h2 => x4 (nr h1) (nr h2)⟩
    · have d8 := waits u13_8 hdep
      obtain ⟨e8_0, e8_1⟩ := f8 d8
      refine op_assign o13 e8_0 ?_
      exact ⟨hf.put (by decide) _, hb, P, Q', ra, rcap, lo, hi, ra2, rcap2, lo2, hi2, fun h => K0 _ _ _ (by decide) rf (nr h),
        fun h => K1 _ _ _ (by decide) rf (nr h),
        fun h => K2 _ _ _ (by decide) rf (nr h),
        fun h => K3 _ _ _ (by decide) rf (nr h),
        fun h => K4 _ _ _ (by decide) rf (nr h),
        fun h => K5 _ _ _ (by decide) rf (nr h),
        fun h => K6 _ _ _ (by decide) rf (nr h),
        fun h => K7 _ _ _ (by decide) rf (nr h),
        fun h => K8 _ _ _ (by decide) rf (nr h),
        fun h => K9 _ _ _ (by decide) rf (nr h),
        fun h => K10 _ _ _ (by decide) rf (nr h),
        fun h => K11 _ rf (nr h),
        fun h => K12 _ rf (nr h),
        fun _ => ⟨eval_put_self (by rw [hz]; decide), Or.inr e8_1⟩,
        fun h1 h2 => x0 (nr h1) (nr h2),
        fun h1 h2 => x1 (nr h1) (nr h2),
        fun h1 h2 => x2 (nr h1) (nr h2),
        fun h1 h2 => x3 (nr h1) (nr h2),
        fun h1 h2 => x4 (nr h1) (nr h2)⟩
  · intro D a w hD hI
    obtain ⟨hf, hb, P, Q', ra, rcap, lo, hi, ra2, rcap2, lo2, hi2, f0, f1, f2, f3, f4, f5, f6, f7, f8, f9, f10, f11, f12, f13, x0, x1, x2, x3, x4⟩ := hI
    rw [hn] at hD
    have e0_0 := f0 (hD 0 (by decide))
    have e1_0 := f1 (hD 1 (by decide))
    have e2_0 := f2 (hD 2 (by decide))
    have e3_0 := f3 (hD 3 (by decide))
    obtain ⟨e4_0, e4_1, e4_2, e4_3, e4_4, e4_5⟩ := f4 (hD 4 (by decide))
    obtain ⟨e5_0, e5_1⟩ := f5 (hD 5 (by decide))
    obtain ⟨e6_0, e6_1⟩ := f6 (hD 6 (by decide))
    obtain ⟨e7_0, e7_1⟩ := f7 (hD 7 (by decide))
    obtain ⟨e8_0, e8_1⟩ := f8 (hD 8 (by decide))
    obtain ⟨e9_0, e9_1, e9_2, e9_3⟩ := f9 (hD 9 (by decide))
    obtain ⟨e10_0, e10_1, e10_2, e10_3⟩ := f10 (hD 10 (by decide))
    obtain ⟨e11_0, e11_1, e11_2, e11_3⟩ := f11 (hD 11 (by decide))
    obtain ⟨e12_0, e12_1, e12_2, e12_3⟩ := f12 (hD 12 (by decide))
    obtain ⟨e13_0, e13_1⟩ := f13 (hD 13 (by decide))
    have y0 := x0 (hD 4 (by decide)) (hD 9 (by decide))
    have y1 := x1 (hD 4 (by decide)) (hD 9 (by decide))
    have y2 := x2 (hD 4 (by decide)) (hD 10 (by decide))
    have y3 := x3 (hD 4 (by decide)) (hD 10 (by decide))
    have y4 := x4 (hD 9 (by decide)) (hD 10 (by decide))
    have hw := hb.size
    obtain ⟨n1, n2, n3, n4, n5⟩ := e4_3
    exact hQ a w hf ⟨P, Q', ra, rcap, ra2, rcap2, lo, hi, lo2, hi2, e9_0, e10_0, e13_0, e11_0, e12_0, e4_1, e4_2, ⟨by omega, by omega, by omega, by omega, by omega, by omega, by omega, n3, n4, n5, by omega, by omega, by omega, by omega⟩, hb⟩
  · exact ⟨FrameIs.refl _ _, (Below.refl _ _).drew, 0, 0, none, 0, 0, 0, none, 0, 0, 0, fun h => False.elim h, fun h => False.elim h, fun h => False.elim h, fun h => False.elim h, fun h => False.elim h, fun h => False.elim h, fun h => False.elim h, fun h => False.elim h, fun h => False.elim h, fun h => False.elim h, fun h => False.elim h, fun h => False.elim h, fun h => False.elim h, fun h => False.elim h, fun h => False.elim h, fun h => False.elim h, fun h => False.elim h, fun h => False.elim h, fun h => False.elim h⟩

theorem serveReg28_ops (ops : Array Oper) (h : regionOps 28 (Try.f3.body.getD .skip) = some ops) : backward ops = true ∧ ops.size = 15 ∧ IsOp ops 0 (some 111) (.load 26 (.tmp 3)) ∧ IsOp ops 1 (some 112) (.call ⟨.value (.func 7), #[.tmp 111], #[26]⟩) ∧ IsOp ops 2 (some 113) (.load 29 (.tmp 4)) ∧ IsOp ops 3 (some 114) (.call ⟨.value (.func 8), #[.tmp 113], #[29]⟩) ∧ IsOp ops 4 (some 115) (.move (.tmp 2)) ∧ IsOp ops 5 (some 116) (.call ⟨.value (.func 9), #[.tmp 112, .tmp 114, .tmp 115], #[33, 34, 4]⟩) ∧ IsOp ops 6 (some 110) (.move (.tmp 116)) ∧ IsOp ops 7 (some 117) (.extract (.tmp 110) 0) ∧ IsOp ops 8 (some 118) (.extract (.tmp 110) 1) ∧ IsOp ops 9 (some 119) (.extract (.tmp 110) 2) ∧ IsOp ops 10 (some 18) (.alloc 33) ∧ IsOp ops 11 (some 19) (.alloc 34) ∧ IsOp ops 12 none (.store 33 (.tmp 18) (.tmp 117)) ∧ IsOp ops 13 none (.store 34 (.tmp 19) (.tmp 118)) ∧ IsOp ops 14 (some 20) (.assign (.tmp 119)) ∧ Waits ops 1 0 ∧ Waits ops 3 2 ∧ Waits ops 5 1 ∧ Waits ops 5 3 ∧ Waits ops 5 4 ∧ Waits ops 6 5 ∧ Waits ops 7 6 ∧ Waits ops 8 6 ∧ Waits ops 9 6 ∧ Waits ops 12 10 ∧ Waits ops 12 7 ∧ Waits ops 13 11 ∧ Waits ops 13 8 ∧ Waits ops 14 9 := by
  obtain rfl : ops = (regionOps 28 (Try.f3.body.getD .skip)).getD #[] := by rw [h]; rfl
  exact ⟨by kernel_rfl, by kernel_rfl, by unfold IsOp; kernel_rfl, by unfold IsOp; kernel_rfl, by unfold IsOp; kernel_rfl, by unfold IsOp; kernel_rfl, by unfold IsOp; kernel_rfl, by unfold IsOp; kernel_rfl, by unfold IsOp; kernel_rfl, by unfold IsOp; kernel_rfl, by unfold IsOp; kernel_rfl, by unfold IsOp; kernel_rfl, by unfold IsOp; kernel_rfl, by unfold IsOp; kernel_rfl, by unfold IsOp; kernel_rfl, by unfold IsOp; kernel_rfl, by unfold IsOp; kernel_rfl, by unfold Waits; kernel_rfl, by unfold Waits; kernel_rfl, by unfold Waits; kernel_rfl, by unfold Waits; kernel_rfl, by unfold Waits; kernel_rfl, by unfold Waits; kernel_rfl, by unfold Waits; kernel_rfl, by unfold Waits; kernel_rfl, by unfold Waits; kernel_rfl, by unfold Waits; kernel_rfl, by unfold Waits; kernel_rfl, by unfold Waits; kernel_rfl, by unfold Waits; kernel_rfl, by unfold Waits; kernel_rfl⟩

abbrev serveReg28_I (c : CpuN) (r : CpuN × BusN) (L : List Nat) (nmi : Bool) (sa : Option Addr) (cap : Nat) (V : World) (a0 : Act) (D : Nat → Prop) (a : Act) (w : World) : Prop :=
  FrameIs a0 [18, 19, 20, 110, 111, 112, 113, 114, 115, 116, 117, 118, 119] a ∧ Below V.heap.size V w ∧ ∃ (P : Nat) (Q' : Nat) (g : Nat) (glo : Nat) (ghi : Nat) (ra : Option Addr) (rcap : Nat) (lo : Nat) (hi : Nat) (ra2 : Option Addr) (rcap2 : Nat) (lo2 : Nat) (hi2 : Nat), (D 0 → a.eval (.tmp 111) = cpuV c) ∧ (D 1 → a.eval (.tmp 112) = cpuV c) ∧ (D 2 → a.eval (.tmp 113) = ramV (.slice sa L.length cap)) ∧ (D 3 → a.eval (.tmp 114) = ramV (.slice (some ⟨g, 0, none⟩) L.length L.length) ∧ SegB w glo ghi (.slice (some ⟨g, 0, none⟩) L.length L.length) (L) ∧ (V.heap.size ≤ glo) ∧ ghi ≤ w.heap.size) ∧ (D 4 → a.eval (.tmp 115) = .bool nmi) ∧ (D 5 → a.eval (.tmp 116) = .tuple #[cpuV r.1, ramV (.slice ra r.2.mem.length rcap), .slice ra2 r.2.log.length rcap2] ∧ SegB w lo hi (.slice ra r.2.mem.length rcap) (r.2.mem) ∧ SegC w lo2 hi2 (.slice ra2 r.2.log.length rcap2) (r.2.log) ∧ (V.heap.size ≤ lo ∧ V.heap.size ≤ lo2 ∧ lo ≤ hi ∧ lo2 ≤ hi2 ∧ (hi ≤ lo2 ∨ hi2 ≤ lo)) ∧ hi ≤ w.heap.size ∧ hi2 ≤ w.heap.size ∧ D 3) ∧ (D 6 → a.eval (.tmp 110) = .tuple #[cpuV r.1, ramV (.slice ra r.2.mem.length rcap), .slice ra2 r.2.log.length rcap2] ∧ D 3 ∧ D 5) ∧ (D 7 → a.eval (.tmp 117) = cpuV r.1 ∧ D 3 ∧ D 5) ∧ (D 8 → a.eval (.tmp 118) = ramV (.slice ra r.2.mem.length rcap) ∧ D 3 ∧ D 5) ∧ (D 9 → a.eval (.tmp 119) = .slice ra2 r.2.log.length rcap2 ∧ D 3 ∧ D 5) ∧ (D 10 → a.eval (.tmp 18) = .pointer (some ⟨P, 0, none⟩) ∧ (V.heap.size ≤ P) ∧ (∃ cs : Array Value, BoxN w P 33 cs ∧ cs.size = 11) ∧ P + 1 ≤ w.heap.size) ∧ (D 11 → a.eval (.tmp 19) = .pointer (some ⟨Q', 0, none⟩) ∧ (V.heap.size ≤ Q') ∧ (∃ cs : Array Value, BoxN w Q' 34 cs ∧ cs.size = 1) ∧ Q' + 1 ≤ w.heap.size) ∧ (D 12 → BoxN w P 33 (cpuCells r.1) ∧ (V.heap.size ≤ P) ∧ D 3 ∧ D 5 ∧ D 10) ∧ (D 13 → BoxN w Q' 34 #[.slice ra r.2.mem.length rcap] ∧ (V.heap.size ≤ Q') ∧ D 3 ∧ D 5 ∧ D 11) ∧ (D 14 → a.eval (.tmp 20) = .slice ra2 r.2.log.length rcap2 ∧ D 3 ∧ D 5) ∧ (D 3 → D 10 → (ghi ≤ P ∨ P + 1 ≤ glo)) ∧ (D 3 → D 11 → (ghi ≤ Q' ∨ Q' + 1 ≤ glo)) ∧ (D 5 → D 10 → (hi ≤ P ∨ P + 1 ≤ lo)) ∧ (D 5 → D 10 → (hi2 ≤ P ∨ P + 1 ≤ lo2)) ∧ (D 5 → D 11 → (hi ≤ Q' ∨ Q' + 1 ≤ lo)) ∧ (D 5 → D 11 → (hi2 ≤ Q' ∨ Q' + 1 ≤ lo2)) ∧ (D 10 → D 11 → (P + 1 ≤ Q' ∨ Q' + 1 ≤ P))

set_option maxRecDepth 100000 in
set_option maxHeartbeats 4000000 in
theorem serveReg28 (c : CpuN) (r : CpuN × BusN) (L : List Nat) (nmi : Bool) (sa : Option Addr) (cap : Nat) (hl : L.length ≤ 1048576) (V : World) (C R : Nat) (hC : BoxN V C 26 (cpuCells c)) (hR : BoxN V R 29 #[.slice sa L.length cap]) (hrow : RowB V sa L) (HS : ∀ (g : Nat) (W : World), RowB W (some ⟨g, 0, none⟩) L → Calls Try.prog 9 #[cpuV c, ramV (.slice (some ⟨g, 0, none⟩) L.length L.length), .bool nmi] W (Stepped W r)) (a0 : Act) (h2 : a0.eval (.tmp 3) = .pointer (some ⟨C, 0, none⟩)) (h3 : a0.eval (.tmp 4) = .pointer (some ⟨R, 0, none⟩)) (h4 : a0.eval (.tmp 2) = .bool nmi) (hsz : a0.tmps.size = 149) (Q : Exit → Act → World → Prop)
    (hQ : ∀ a w, FrameIs a0 [18, 19, 20, 110, 111, 112, 113, 114, 115, 116, 117, 118, 119] a → Took3 V r (a.eval (.tmp 18)) (a.eval (.tmp 19)) (a.eval (.tmp 20)) w → Q .normal a w)
    (ops : Array Oper) (hops : regionOps 28 (Try.f3.body.getD .skip) = some ops) (id : Nat) : (Code.region id ops true).wp Try.prog Q a0 V := by
  obtain ⟨hbk, hn, o0, o1, o2, o3, o4, o5, o6, o7, o8, o9, o10, o11, o12, o13, o14, u1_0, u3_2, u5_1, u5_3, u5_4, u6_5, u7_6, u8_6, u9_6, u12_10, u12_7, u13_11, u13_8, u14_9⟩ := serveReg28_ops ops hops
  clear hops
  refine wp_region_facts (by kernel_rfl) hbk (serveReg28_I c r L nmi sa cap V a0) ?_ ?_ id a0 V ?_
  · intro i hin D a w hnd hdep hI
    obtain ⟨hf, hb, P, Q', g, glo, ghi, ra, rcap, lo, hi, ra2, rcap2, lo2, hi2, f0, f1, f2, f3, f4, f5, f6, f7, f8, f9, f10, f11, f12, f13, f14, x0, x1, x2, x3, x4, x5, x6⟩ := hI
    rw [hn] at hin
    have hz : a.tmps.size = 149 := hf.size.trans hsz
    have hbs := hb.size
    have rf := Below.refl w.heap.size w
    have K0 : ∀ (d : Nat) (v : Value) (w' : World), 111 ≠ d → Below w.heap.size w w' → D 0 → (a.put (some d) v).eval (.tmp 111) = cpuV c := fun d v w' hd hbw h => by have g0 := f0 h; exact ((eval_put_ne hd).trans g0)
    have K1 : ∀ (d : Nat) (v : Value) (w' : World), 112 ≠ d → Below w.heap.size w w' → D 1 → (a.put (some d) v).eval (.tmp 112) = cpuV c := fun d v w' hd hbw h => by have g0 := f1 h; exact ((eval_put_ne hd).trans g0)
    have K2 : ∀ (d : Nat) (v : Value) (w' : World), 113 ≠ d → Below w.heap.size w w' → D 2 → (a.put (some d) v).eval (.tmp 113) = ramV (.slice sa L.length cap) := fun d v w' hd hbw h => by have g0 := f2 h; exact ((eval_put_ne hd).trans g0)
    have K3 : ∀ (d : Nat) (v : Value) (w' : World), 114 ≠ d → Below w.heap.size w w' → D 3 → (a.put (some d) v).eval (.tmp 114) = ramV (.slice (some ⟨g, 0, none⟩) L.length L.length) ∧ SegB w' glo ghi (.slice (some ⟨g, 0, none⟩) L.length L.length) (L) ∧ (V.heap.size ≤ glo) ∧ ghi ≤ w'.heap.size := fun d v w' hd hbw h => by obtain ⟨g0, g1, g2, g3⟩ := f3 h; exact ⟨((eval_put_ne hd).trans g0), (g1.below hbw), g2, (Nat.le_trans g3 hbw.size)⟩
    have K4 : ∀ (d : Nat) (v : Value) (w' : World), 115 ≠ d → Below w.heap.size w w' → D 4 → (a.put (some d) v).eval (.tmp 115) = .bool nmi := fun d v w' hd hbw h => by have g0 := f4 h; exact ((eval_put_ne hd).trans g0)
    have K5 : ∀ (d : Nat) (v : Value) (w' : World), 116 ≠ d → Below w.heap.size w w' → D 5 → (a.put (some d) v).eval (.tmp 116) = .tuple #[cpuV r.1, ramV (.slice ra r.2.mem.length rcap), .slice ra2 r.2.log.length rcap2] ∧ SegB w' lo hi (.slice ra r.2.mem.length rcap) (r.2.mem) ∧ SegC w' lo2 hi2 (.slice ra2 r.2.log.length rcap2) (r.2.log) ∧ (V.heap.size ≤ lo ∧ V.heap.size ≤ lo2 ∧ lo ≤ hi ∧ lo2 ≤ hi2 ∧ (hi ≤ lo2 ∨ hi2 ≤ lo)) ∧ hi ≤ w'.heap.size ∧ hi2 ≤ w'.heap.size ∧ (3 = i ∨ D 3) := fun d v w' hd hbw h => by obtain ⟨g0, g1, g2, g3, g4, g5, g6⟩ := f5 h; exact ⟨((eval_put_ne hd).trans g0), (g1.below hbw), (g2.below hbw), g3, (Nat.le_trans g4 hbw.size), (Nat.le_trans g5 hbw.size), (Or.inr g6)⟩
    have K6 : ∀ (d : Nat) (v : Value) (w' : World), 110 ≠ d → Below w.heap.size w w' → D 6 → (a.put (some d) v).eval (.tmp 110) = .tuple #[cpuV r.1, ramV (.slice ra r.2.mem.length rcap), .slice ra2 r.2.log.length rcap2] ∧ (3 = i ∨ D 3) ∧ (5 = i ∨ D 5) := fun d v w' hd hbw h => by obtain ⟨g0, g1, g2⟩ := f6 h; exact ⟨((eval_put_ne hd).trans g0), (Or.inr g1), (Or.inr g2)⟩
    have K7 : ∀ (d : Nat) (v : Value) (w' : World), 117 ≠ d → Below w.heap.size w w' → D 7 → (a.put (some d) v).eval (.tmp 117) = cpuV r.1 ∧ (3 = i ∨ D 3) ∧ (5 = i ∨ D 5) := fun d v w' hd hbw h => by obtain ⟨g0, g1, g2⟩ := f7 h; exact ⟨((eval_put_ne hd).trans g0), (Or.inr g1), (Or.inr g2)⟩
    have K8 : ∀ (d : Nat) (v : Value) (w' : World), 118 ≠ d → Below w.heap.size w w' → D 8 → (a.put (some d) v).eval (.tmp 118) = ramV (.slice ra r.2.mem.length rcap) ∧ (3 = i ∨ D 3) ∧ (5 = i ∨ D 5) := fun d v w' hd hbw h => by obtain ⟨g0, g1, g2⟩ := f8 h; exact ⟨((eval_put_ne hd).trans g0), (Or.inr g1), (Or.inr g2)⟩
    have K9 : ∀ (d : Nat) (v : Value) (w' : World), 119 ≠ d → Below w.heap.size w w' → D 9 → (a.put (some d) v).eval (.tmp 119) = .slice ra2 r.2.log.length rcap2 ∧ (3 = i ∨ D 3) ∧ (5 = i ∨ D 5) := fun d v w' hd hbw h => by obtain ⟨g0, g1, g2⟩ := f9 h; exact ⟨((eval_put_ne hd).trans g0), (Or.inr g1), (Or.inr g2)⟩
    have K10 : ∀ (d : Nat) (v : Value) (w' : World), 18 ≠ d → Below w.heap.size w w' → D 10 → (a.put (some d) v).eval (.tmp 18) = .pointer (some ⟨P, 0, none⟩) ∧ (V.heap.size ≤ P) ∧ (∃ cs : Array Value, BoxN w' P 33 cs ∧ cs.size = 11) ∧ P + 1 ≤ w'.heap.size := fun d v w' hd hbw h => by obtain ⟨g0, g1, g2, g3⟩ := f10 h; exact ⟨((eval_put_ne hd).trans g0), g1, (by obtain ⟨cs, hcs, hcz⟩ := g2; exact ⟨cs, hcs.below hbw, hcz⟩), (Nat.le_trans g3 hbw.size)⟩
    have K11 : ∀ (d : Nat) (v : Value) (w' : World), 19 ≠ d → Below w.heap.size w w' → D 11 → (a.put (some d) v).eval (.tmp 19) = .pointer (some ⟨Q', 0, none⟩) ∧ (V.heap.size ≤ Q') ∧ (∃ cs : Array Value, BoxN w' Q' 34 cs ∧ cs.size = 1) ∧ Q' + 1 ≤ w'.heap.size := fun d v w' hd hbw h => by obtain ⟨g0, g1, g2, g3⟩ := f11 h; exact ⟨((eval_put_ne hd).trans g0), g1, (by obtain ⟨cs, hcs, hcz⟩ := g2; exact ⟨cs, hcs.below hbw, hcz⟩), (Nat.le_trans g3 hbw.size)⟩
    have K12 : ∀ (w' : World), Below w.heap.size w w' → D 12 → BoxN w' P 33 (cpuCells r.1) ∧ (V.heap.size ≤ P) ∧ (3 = i ∨ D 3) ∧ (5 = i ∨ D 5) ∧ (10 = i ∨ D 10) := fun w' hbw h => by obtain ⟨g0, g1, g2, g3, g4⟩ := f12 h; exact ⟨(g0.below hbw), g1, (Or.inr g2), (Or.inr g3), (Or.inr g4)⟩
    have K13 : ∀ (w' : World), Below w.heap.size w w' → D 13 → BoxN w' Q' 34 #[.slice ra r.2.mem.length rcap] ∧ (V.heap.size ≤ Q') ∧ (3 = i ∨ D 3) ∧ (5 = i ∨ D 5) ∧ (11 = i ∨ D 11) := fun w' hbw h => by obtain ⟨g0, g1, g2, g3, g4⟩ := f13 h; exact ⟨(g0.below hbw), g1, (Or.inr g2), (Or.inr g3), (Or.inr g4)⟩
    have K14 : ∀ (d : Nat) (v : Value) (w' : World), 20 ≠ d → Below w.heap.size w w' → D 14 → (a.put (some d) v).eval (.tmp 20) = .slice ra2 r.2.log.length rcap2 ∧ (3 = i ∨ D 3) ∧ (5 = i ∨ D 5) := fun d v w' hd hbw h => by obtain ⟨g0, g1, g2⟩ := f14 h; exact ⟨((eval_put_ne hd).trans g0), (Or.inr g1), (Or.inr g2)⟩
    obtain (rfl | rfl | rfl | rfl | rfl | rfl | rfl | rfl | rfl | rfl | rfl | rfl | rfl | rfl | rfl) : i = 0 ∨ i = 1 ∨ i = 2 ∨ i = 3 ∨ i = 4 ∨ i = 5 ∨ i = 6 ∨ i = 7 ∨ i = 8 ∨ i = 9 ∨ i = 10 ∨ i = 11 ∨ i = 12 ∨ i = 13 ∨ i = 14 := by omega
    · refine op_load o0 ((hf.eval (by decide)).trans h2) (loadLC (hC.below hb)) ?_
      exact ⟨hf.put (by decide) _, hb, P, Q', g, glo, ghi, ra, rcap, lo, hi, ra2, rcap2, lo2, hi2, fun _ => eval_put_self (by rw [hz]; decide),
        fun h => K1 _ _ _ (by decide) rf (nr h),
        fun h => K2 _ _ _ (by decide) rf (nr h),
        fun h => K3 _ _ _ (by decide) rf (nr h),
        fun h => K4 _ _ _ (by decide) rf (nr h),
        fun h => K5 _ _ _ (by decide) rf (nr h),
        fun h => K6 _ _ _ (by decide) rf (nr h),
        fun h => K7 _ _ _ (by decide) rf (nr h),
        fun h => K8 _ _ _ (by decide) rf (nr h),
        fun h => K9 _ _ _ (by decide) rf (nr h),
        fun h => K10 _ _ _ (by decide) rf (nr h),
        fun h => K11 _ _ _ (by decide) rf (nr h),
        fun h => K12 _ rf (nr h),
        fun h => K13 _ rf (nr h),
        fun h => K14 _ _ _ (by decide) rf (nr h),
        fun h1 h2 => x0 (nr h1) (nr h2),
        fun h1 h2 => x1 (nr h1) (nr h2),
        fun h1 h2 => x2 (nr h1) (nr h2),
        fun h1 h2 => x3 (nr h1) (nr h2),
        fun h1 h2 => x4 (nr h1) (nr h2),
        fun h1 h2 => x5 (nr h1) (nr h2),
        fun h1 h2 => x6 (nr h1) (nr h2)⟩
    · have d0 := waits u1_0 hdep
      have e0_0 := f0 d0
      refine op_call o1 (by simp only [List.map_toArray, List.map_cons, List.map_nil, eval_const, e0_0]) rfl ((toCpu_any c _).mono ?_)
      rintro e w' ⟨rfl, hbw⟩
      have hbz := hbw.size
      have hb' := below_step hb hbw (Nat.le_refl _)
      refine ⟨_, rfl, ?_⟩
      exact ⟨hf.put (by decide) _, hb', P, Q', g, glo, ghi, ra, rcap, lo, hi, ra2, rcap2, lo2, hi2, fun h => K0 _ _ _ (by decide) hbw (nr h),
        fun _ => eval_put_self (by rw [hz]; decide),
        fun h => K2 _ _ _ (by decide) hbw (nr h),
        fun h => K3 _ _ _ (by decide) hbw (nr h),
        fun h => K4 _ _ _ (by decide) hbw (nr h),
        fun h => K5 _ _ _ (by decide) hbw (nr h),
        fun h => K6 _ _ _ (by decide) hbw (nr h),
        fun h => K7 _ _ _ (by decide) hbw (nr h),
        fun h => K8 _ _ _ (by decide) hbw (nr h),
        fun h => K9 _ _ _ (by decide) hbw (nr h),
        fun h => K10 _ _ _ (by decide) hbw (nr h),
        fun h => K11 _ _ _ (by decide) hbw (nr h),
        fun h => K12 _ hbw (nr h),
        fun h => K13 _ hbw (nr h),
        fun h => K14 _ _ _ (by decide) hbw (nr h),
        fun h1 h2 => x0 (nr h1) (nr h2),
        fun h1 h2 => x1 (nr h1) (nr h2),
        fun h1 h2 => x2 (nr h1) (nr h2),
        fun h1 h2 => x3 (nr h1) (nr h2),
        fun h1 h2 => x4 (nr h1) (nr h2),
        fun h1 h2 => x5 (nr h1) (nr h2),
        fun h1 h2 => x6 (nr h1) (nr h2)⟩
    · refine op_load o2 ((hf.eval (by decide)).trans h3) (loadLR (hR.below hb)) ?_
      exact ⟨hf.put (by decide) _, hb, P, Q', g, glo, ghi, ra, rcap, lo, hi, ra2, rcap2, lo2, hi2, fun h => K0 _ _ _ (by decide) rf (nr h),
        fun h => K1 _ _ _ (by decide) rf (nr h),
        fun _ => eval_put_self (by rw [hz]; decide),
        fun h => K3 _ _ _ (by decide) rf (nr h),
        fun h => K4 _ _ _ (by decide) rf (nr h),
        fun h => K5 _ _ _ (by decide) rf (nr h),
        fun h => K6 _ _ _ (by decide) rf (nr h),
        fun h => K7 _ _ _ (by decide) rf (nr h),
        fun h => K8 _ _ _ (by decide) rf (nr h),
        fun h => K9 _ _ _ (by decide) rf (nr h),
        fun h => K10 _ _ _ (by decide) rf (nr h),
        fun h => K11 _ _ _ (by decide) rf (nr h),
        fun h => K12 _ rf (nr h),
        fun h => K13 _ rf (nr h),
        fun h => K14 _ _ _ (by decide) rf (nr h),
        fun h1 h2 => x0 (nr h1) (nr h2),
        fun h1 h2 => x1 (nr h1) (nr h2),
        fun h1 h2 => x2 (nr h1) (nr h2),
        fun h1 h2 => x3 (nr h1) (nr h2),
        fun h1 h2 => x4 (nr h1) (nr h2),
        fun h1 h2 => x5 (nr h1) (nr h2),
        fun h1 h2 => x6 (nr h1) (nr h2)⟩
    · have d2 := waits u3_2 hdep
      have e2_0 := f2 d2
      refine op_call o3 (by simp only [List.map_toArray, List.map_cons, List.map_nil, eval_const, e2_0]) rfl ((toRam_any sa cap L _ hl (RowB.below hrow hb)).mono ?_)
      rintro e w' ⟨g', rfl, om, hbw⟩
      have hbz := hbw.size
      have hb' := below_step hb hbw (Nat.le_refl _)
      refine ⟨_, rfl, ?_⟩
      exact ⟨hf.put (by decide) _, hb', P, Q', g', w.heap.size, w'.heap.size, ra, rcap, lo, hi, ra2, rcap2, lo2, hi2, fun h => K0 _ _ _ (by decide) hbw (nr h),
        fun h => K1 _ _ _ (by decide) hbw (nr h),
        fun h => K2 _ _ _ (by decide) hbw (nr h),
        fun _ => ⟨eval_put_self (by rw [hz]; decide), SegB.of om, hbs, Nat.le_refl _⟩,
        fun h => K4 _ _ _ (by decide) hbw (nr h),
        fun h => by have h' := (nr h); obtain ⟨g0, g1, g2, g3, g4, g5, g6⟩ := f5 h'; exact absurd g6 hnd,
        fun h => by have h' := (nr h); obtain ⟨g0, g1, g2⟩ := f6 h'; exact absurd g1 hnd,
        fun h => by have h' := (nr h); obtain ⟨g0, g1, g2⟩ := f7 h'; exact absurd g1 hnd,
        fun h => by have h' := (nr h); obtain ⟨g0, g1, g2⟩ := f8 h'; exact absurd g1 hnd,
        fun h => by have h' := (nr h); obtain ⟨g0, g1, g2⟩ := f9 h'; exact absurd g1 hnd,
        fun h => K10 _ _ _ (by decide) hbw (nr h),
        fun h => K11 _ _ _ (by decide) hbw (nr h),
        fun h => by have h' := (nr h); obtain ⟨g0, g1, g2, g3, g4⟩ := f12 h'; exact absurd g2 hnd,
        fun h => by have h' := (nr h); obtain ⟨g0, g1, g2, g3, g4⟩ := f13 h'; exact absurd g2 hnd,
        fun h => by have h' := (nr h); obtain ⟨g0, g1, g2⟩ := f14 h'; exact absurd g1 hnd,
        fun h1 h2 => by have h' := (nr h2); obtain ⟨g0, g1, g2, g3⟩ := f10 h'; omega,
        fun h1 h2 => by have h' := (nr h2); obtain ⟨g0, g1, g2, g3⟩ := f11 h'; omega,
        fun h1 h2 => x2 (nr h1) (nr h2),
        fun h1 h2 => x3 (nr h1) (nr h2),
        fun h1 h2 => x4 (nr h1) (nr h2),
        fun h1 h2 => x5 (nr h1) (nr h2),
        fun h1 h2 => x6 (nr h1) (nr h2)⟩
    · refine op_move o4 ((hf.eval (by decide)).trans h4) ?_
      exact ⟨hf.put (by decide) _, hb, P, Q', g, glo, ghi, ra, rcap, lo, hi, ra2, rcap2, lo2, hi2, fun h => K0 _ _ _ (by decide) rf (nr h),
        fun h => K1 _ _ _ (by decide) rf (nr h),
        fun h => K2 _ _ _ (by decide) rf (nr h),
        fun h => K3 _ _ _ (by decide) rf (nr h),
        fun _ => eval_put_self (by rw [hz]; decide),
        fun h => K5 _ _ _ (by decide) rf (nr h),
        fun h => K6 _ _ _ (by decide) rf (nr h),
        fun h => K7 _ _ _ (by decide) rf (nr h),
        fun h => K8 _ _ _ (by decide) rf (nr h),
        fun h => K9 _ _ _ (by decide) rf (nr h),
        fun h => K10 _ _ _ (by decide) rf (nr h),
        fun h => K11 _ _ _ (by decide) rf (nr h),
        fun h => K12 _ rf (nr h),
        fun h => K13 _ rf (nr h),
        fun h => K14 _ _ _ (by decide) rf (nr h),
        fun h1 h2 => x0 (nr h1) (nr h2),
        fun h1 h2 => x1 (nr h1) (nr h2),
        fun h1 h2 => x2 (nr h1) (nr h2),
        fun h1 h2 => x3 (nr h1) (nr h2),
        fun h1 h2 => x4 (nr h1) (nr h2),
        fun h1 h2 => x5 (nr h1) (nr h2),
        fun h1 h2 => x6 (nr h1) (nr h2)⟩
    · have d1 := waits u5_1 hdep
      have e1_0 := f1 d1
      have d3 := waits u5_3 hdep
      obtain ⟨e3_0, e3_1, e3_2, e3_3⟩ := f3 d3
      have d4 := waits u5_4 hdep
      have e4_0 := f4 d4
      refine op_call o5 (by simp only [List.map_toArray, List.map_cons, List.map_nil, eval_const, e1_0, e3_0, e4_0]) rfl ((HS g w e3_1.row).mono ?_)
      rintro e w' hst
      obtain ⟨ya, ycap, ya2, ycap2, ylo, yhi, ylo2, yhi2, rfl, sm, sc, ⟨q1, q2, q3, q4, q5, q6, q7⟩, hbw⟩ := hst.three
      have hbz := hbw.size
      have hb' := below_step hb hbw (Nat.le_refl _)
      refine ⟨_, rfl, ?_⟩
      exact ⟨hf.put (by decide) _, hb', P, Q', g, glo, ghi, ya, ycap, ylo, yhi, ya2, ycap2, ylo2, yhi2, fun h => K0 _ _ _ (by decide) hbw (nr h),
        fun h => K1 _ _ _ (by decide) hbw (nr h),
        fun h => K2 _ _ _ (by decide) hbw (nr h),
        fun h => K3 _ _ _ (by decide) hbw (nr h),
        fun h => K4 _ _ _ (by decide) hbw (nr h),
        fun _ => ⟨eval_put_self (by rw [hz]; decide), sm, sc, ⟨by omega, by omega, q5, q6, q7⟩, q2, q4, Or.inr d3⟩,
        fun h => by have h' := (nr h); obtain ⟨g0, g1, g2⟩ := f6 h'; exact absurd g2 hnd,
        fun h => by have h' := (nr h); obtain ⟨g0, g1, g2⟩ := f7 h'; exact absurd g2 hnd,
        fun h => by have h' := (nr h); obtain ⟨g0, g1, g2⟩ := f8 h'; exact absurd g2 hnd,
        fun h => by have h' := (nr h); obtain ⟨g0, g1, g2⟩ := f9 h'; exact absurd g2 hnd,
        fun h => K10 _ _ _ (by decide) hbw (nr h),
        fun h => K11 _ _ _ (by decide) hbw (nr h),
        fun h => by have h' := (nr h); obtain ⟨g0, g1, g2, g3, g4⟩ := f12 h'; exact absurd g3 hnd,
        fun h => by have h' := (nr h); obtain ⟨g0, g1, g2, g3, g4⟩ := f13 h'; exact absurd g3 hnd,
        fun h => by have h' := (nr h); obtain ⟨g0, g1, g2⟩ := f14 h'; exact absurd g2 hnd,
        fun h1 h2 => x0 (nr h1) (nr h2),
        fun h1 h2 => x1 (nr h1) (nr h2),
        fun h1 h2 => by have h' := (nr h2); obtain ⟨g0, g1, g2, g3⟩ := f10 h'; omega,
        fun h1 h2 => by have h' := (nr h2); obtain ⟨g0, g1, g2, g3⟩ := f10 h'; omega,
        fun h1 h2 => by have h' := (nr h2); obtain ⟨g0, g1, g2, g3⟩ := f11 h'; omega,
        fun h1 h2 => by have h' := (nr h2); obtain ⟨g0, g1, g2, g3⟩ := f11 h'; omega,
        fun h1 h2 => x6 (nr h1) (nr h2)⟩
    · have d5 := waits u6_5 hdep
      obtain ⟨e5_0, e5_1, e5_2, e5_3, e5_4, e5_5, e5_6⟩ := f5 d5
      refine op_move o6 e5_0 ?_
      exact ⟨hf.put (by decide) _, hb, P, Q', g, glo, ghi, ra, rcap, lo, hi, ra2, rcap2, lo2, hi2, fun h => K0 _ _ _ (by decide) rf (nr h),
        fun h => K1 _ _ _ (by decide) rf (nr h),
        fun h => K2 _ _ _ (by decide) rf (nr h),
        fun h => K3 _ _ _ (by decide) rf (nr h),
        fun h => K4 _ _ _ (by decide) rf (nr h),
        fun h => K5 _ _ _ (by decide) rf (nr h),
        fun _ => ⟨eval_put_self (by rw [hz]; decide), Or.inr e5_6, Or.inr d5⟩,
        fun h => K7 _ _ _ (by decide) rf (nr h),
        fun h => K8 _ _ _ (by decide) rf (nr h),
        fun h => K9 _ _ _ (by decide) rf (nr h),
        fun h => K10 _ _ _ (by decide) rf (nr h),
        fun h => K11 _ _ _ (by decide) rf (nr h),
        fun h => K12 _ rf (nr h),
        fun h => K13 _ rf (nr h),
        fun h => K14 _ _ _ (by decide) rf (nr h),
        fun h1 h2 => x0 (nr h1) (nr h2),
        fun h1 h2 => x1 (nr h1) (nr h2),
        fun h1 h2 => x2 (nr h1) (nr h2),
        fun h1 h2 => x3 (nr h1) (nr h2),
        fun h1 h2 => x4 (nr h1) (nr h2),
        fun h1 h2 => x5 (nr h1) (nr h2),
        fun h1 h2 => x6 (nr h1) (nr h2)⟩
    · have d6 := waits u7_6 hdep
      obtain ⟨e6_0, e6_1, e6_2⟩ := f6 d6
      refine op_extract o7 e6_0 (by rfl) ?_
      exact ⟨hf.put (by decide) _, hb, P, Q', g, glo, ghi, ra, rcap, lo, hi, ra2, rcap2, lo2, hi2, fun h => K0 _ _ _ (by decide) rf (nr h),
        fun h => K1 _ _ _ (by decide) rf (nr h),
        fun h => K2 _ _ _ (by decide) rf (nr h),
        fun h => K3 _ _ _ (by decide) rf (nr h),
        fun h => K4 _ _ _ (by decide) rf (nr h),
        fun h => K5 _ _ _ (by decide) rf (nr h),
        fun h => K6 _ _ _ (by decide) rf (nr h),
        fun _ => ⟨eval_put_self (by rw [hz]; decide), Or.inr e6_1, Or.inr e6_2⟩,
        fun h => K8 _ _ _ (by decide) rf (nr h),
        fun h => K9 _ _ _ (by decide) rf (nr h),
        fun h => K10 _ _ _ (by decide) rf (nr h),
        fun h => K11 _ _ _ (by decide) rf (nr h),
        fun h => K12 _ rf (nr h),
        fun h => K13 _ rf (nr h),
        fun h => K14 _ _ _ (by decide) rf (nr h),
        fun h1 h2 => x0 (nr h1) (nr h2),
        fun h1 h2 => x1 (nr h1) (nr h2),
        fun h1 h2 => x2 (nr h1) (nr h2),
        fun h1 h2 => x3 (nr h1) (nr h2),
        fun h1 h2 => x4 (nr h1) (nr h2),
        fun h1 h2 => x5 (nr h1) (nr h2),
        fun h1 h2 => x6 (nr h1) (nr h2)⟩
    · have d6 := waits u8_6 hdep
      obtain ⟨e6_0, e6_1, e6_2⟩ := f6 d6
      refine op_extract o8 e6_0 (by rfl) ?_
      exact ⟨hf.put (by decide) _, hb, P, Q', g, glo, ghi, ra, rcap, lo, hi, ra2, rcap2, lo2, hi2, fun h => K0 _ _ _ (by decide) rf (nr h),
        fun h => K1 _ _ _ (by decide) rf (nr h),
        fun h => K2 _ _ _ (by decide) rf (nr h),
        fun h => K3 _ _ _ (by decide) rf (nr h),
        fun h => K4 _ _ _ (by decide) rf (nr h),
        fun h => K5 _ _ _ (by decide) rf (nr h),
        fun h => K6 _ _ _ (by decide) rf (nr h),
        fun h => K7 _ _ _ (by decide) rf (nr h),
        fun _ => ⟨eval_put_self (by rw [hz]; decide), Or.inr e6_1, Or.inr e6_2⟩,
        fun h => K9 _ _ _ (by decide) rf (nr h),
        fun h => K10 _ _ _ (by decide) rf (nr h),
        fun h => K11 _ _ _ (by decide) rf (nr h),
        fun h => K12 _ rf (nr h),
        fun h => K13 _ rf (nr h),
        fun h => K14 _ _ _ (by decide) rf (nr h),
        fun h1 h2 => x0 (nr h1) (nr h2),
        fun h1 h2 => x1 (nr h1) (nr h2),
        fun h1 h2 => x2 (nr h1) (nr h2),
        fun h1 h2 => x3 (nr h1) (nr h2),
        fun h1 h2 => x4 (nr h1) (nr h2),
        fun h1 h2 => x5 (nr h1) (nr h2),
        fun h1 h2 => x6 (nr h1) (nr h2)⟩
    · have d6 := waits u9_6 hdep
      obtain ⟨e6_0, e6_1, e6_2⟩ := f6 d6
      refine op_extract o9 e6_0 (by rfl) ?_
      exact ⟨hf.put (by decide) _, hb, P, Q', g, glo, ghi, ra, rcap, lo, hi, ra2, rcap2, lo2, hi2, fun h => K0 _ _ _ (by decide) rf (nr h),
        fun h => K1 _ _ _ (by decide) rf (nr h),
        fun h => K2 _ _ _ (by decide) rf (nr h),
        fun h => K3 _ _ _ (by decide) rf (nr h),
        fun h => K4 _ _ _ (by decide) rf (nr h),
        fun h => K5 _ _ _ (by decide) rf (nr h),
        fun h => K6 _ _ _ (by decide) rf (nr h),
        fun h => K7 _ _ _ (by decide) rf (nr h),
        fun h => K8 _ _ _ (by decide) rf (nr h),
        fun _ => ⟨eval_put_self (by rw [hz]; decide), Or.inr e6_1, Or.inr e6_2⟩,
        fun h => K10 _ _ _ (by decide) rf (nr h),
        fun h => K11 _ _ _ (by decide) rf (nr h),
        fun h => K12 _ rf (nr h),
        fun h => K13 _ rf (nr h),
        fun h => K14 _ _ _ (by decide) rf (nr h),
        fun h1 h2 => x0 (nr h1) (nr h2),
        fun h1 h2 => x1 (nr h1) (nr h2),
        fun h1 h2 => x2 (nr h1) (nr h2),
        fun h1 h2 => x3 (nr h1) (nr h2),
        fun h1 h2 => x4 (nr h1) (nr h2),
        fun h1 h2 => x5 (nr h1) (nr h2),
        fun h1 h2 => x6 (nr h1) (nr h2)⟩
    · obtain ⟨cs, hal, hcz⟩ := allocIC w
      refine op_alloc o10 hal ?_
      have hbw : Below w.heap.size w (w.alloc (.cells cs 33)) := (Below.refl _ _).alloc (Nat.le_refl _) _
      have hb' := below_step hb hbw (Nat.le_refl _)
      exact ⟨hf.put (by decide) _, hb', w.heap.size, Q', g, glo, ghi, ra, rcap, lo, hi, ra2, rcap2, lo2, hi2, fun h => K0 _ _ _ (by decide) hbw (nr h),
        fun h => K1 _ _ _ (by decide) hbw (nr h),
        fun h => K2 _ _ _ (by decide) hbw (nr h),
        fun h => K3 _ _ _ (by decide) hbw (nr h),
        fun h => K4 _ _ _ (by decide) hbw (nr h),
        fun h => K5 _ _ _ (by decide) hbw (nr h),
        fun h => K6 _ _ _ (by decide) hbw (nr h),
        fun h => K7 _ _ _ (by decide) hbw (nr h),
        fun h => K8 _ _ _ (by decide) hbw (nr h),
        fun h => K9 _ _ _ (by decide) hbw (nr h),
        fun _ => ⟨eval_put_self (by rw [hz]; decide), hbs, ⟨cs, BoxN.new _ _ _, hcz⟩, Nat.le_of_eq (World.size_alloc _ _).symm⟩,
        fun h => K11 _ _ _ (by decide) hbw (nr h),
        fun h => by have h' := (nr h); obtain ⟨g0, g1, g2, g3, g4⟩ := f12 h'; exact absurd g4 hnd,
        fun h => K13 _ hbw (nr h),
        fun h => K14 _ _ _ (by decide) hbw (nr h),
        fun h1 h2 => by have h' := (nr h1); obtain ⟨g0, g1, g2, g3⟩ := f3 h'; omega,
        fun h1 h2 => x1 (nr h1) (nr h2),
        fun h1 h2 => by have h' := (nr h1); obtain ⟨g0, g1, g2, g3, g4, g5, g6⟩ := f5 h'; omega,
        fun h1 h2 => by have h' := (nr h1); obtain ⟨g0, g1, g2, g3, g4, g5, g6⟩ := f5 h'; omega,
        fun h1 h2 => x4 (nr h1) (nr h2),
        fun h1 h2 => x5 (nr h1) (nr h2),
        fun h1 h2 => by have h' := (nr h2); obtain ⟨g0, g1, g2, g3⟩ := f11 h'; omega⟩
    · obtain ⟨cs, hal, hcz⟩ := allocIR w
      refine op_alloc o11 hal ?_
      have hbw : Below w.heap.size w (w.alloc (.cells cs 34)) := (Below.refl _ _).alloc (Nat.le_refl _) _
      have hb' := below_step hb hbw (Nat.le_refl _)
      exact ⟨hf.put (by decide) _, hb', P, w.heap.size, g, glo, ghi, ra, rcap, lo, hi, ra2, rcap2, lo2, hi2, fun h => K0 _ _ _ (by decide) hbw (nr h),
        fun h => K1 _ _ _ (by decide) hbw (nr h),
        fun h => K2 _ _ _ (by decide) hbw (nr h),
        fun h => K3 _ _ _ (by decide) hbw (nr h),
        fun h => K4 _ _ _ (by decide) hbw (nr h),
        fun h => K5 _ _ _ (by decide) hbw (nr h),
        fun h => K6 _ _ _ (by decide) hbw (nr h),
        fun h => K7 _ _ _ (by decide) hbw (nr h),
        fun h => K8 _ _ _ (by decide) hbw (nr h),
        fun h => K9 _ _ _ (by decide) hbw (nr h),
        fun h => K10 _ _ _ (by decide) hbw (nr h),
        fun _ => ⟨eval_put_self (by rw [hz]; decide), hbs, ⟨cs, BoxN.new _ _ _, hcz⟩, Nat.le_of_eq (World.size_alloc _ _).symm⟩,
        fun h => K12 _ hbw (nr h),
        fun h => by have h' := (nr h); obtain ⟨g0, g1, g2, g3, g4⟩ := f13 h'; exact absurd g4 hnd,
        fun h => K14 _ _ _ (by decide) hbw (nr h),
        fun h1 h2 => x0 (nr h1) (nr h2),
        fun h1 h2 => by have h' := (nr h1); obtain ⟨g0, g1, g2, g3⟩ := f3 h'; omega,
        fun h1 h2 => x2 (nr h1) (nr h2),
        fun h1 h2 => x3 (nr h1) (nr h2),
        fun h1 h2 => by have h' := (nr h1); obtain ⟨g0, g1, g2, g3, g4, g5, g6⟩ := f5 h'; omega,
        fun h1 h2 => by have h' := (nr h1); obtain ⟨g0, g1, g2, g3, g4, g5, g6⟩ := f5 h'; omega,
        fun h1 h2 => by have h' := (nr h1); obtain ⟨g0, g1, g2, g3⟩ := f10 h'; omega⟩
    · have d10 := waits u12_10 hdep
      obtain ⟨e10_0, e10_1, e10_2, e10_3⟩ := f10 d10
      have d7 := waits u12_7 hdep
      obtain ⟨e7_0, e7_1, e7_2⟩ := f7 d7
      obtain ⟨cs, hcs, hcz⟩ := e10_2
      obtain ⟨w', hst, hnew, hsp⟩ := storeIC hcs hcz
      refine op_store o12 e10_0 e7_0 hst ?_
      have hb' := hb.trans (hsp.below e10_1 hbs)
      exact ⟨hf, hb', P, Q', g, glo, ghi, ra, rcap, lo, hi, ra2, rcap2, lo2, hi2, fun h => by have h' := (nr h); have g0 := f0 h'; exact g0,
        fun h => by have h' := (nr h); have g0 := f1 h'; exact g0,
        fun h => by have h' := (nr h); have g0 := f2 h'; exact g0,
        fun h => by have h' := (nr h); have := x0 h' d10; obtain ⟨g0, g1, g2, g3⟩ := f3 h'; exact ⟨g0, (g1.span hsp (by omega)), g2, (Nat.le_trans g3 hsp.size)⟩,
        fun h => by have h' := (nr h); have g0 := f4 h'; exact g0,
        fun h => by have h' := (nr h); have := x2 h' d10; have := x3 h' d10; obtain ⟨g0, g1, g2, g3, g4, g5, g6⟩ := f5 h'; exact ⟨g0, (g1.span hsp (by omega)), (g2.span hsp (by omega)), g3, (Nat.le_trans g4 hsp.size), (Nat.le_trans g5 hsp.size), (Or.inr g6)⟩,
        fun h => by have h' := (nr h); obtain ⟨g0, g1, g2⟩ := f6 h'; exact ⟨g0, (Or.inr g1), (Or.inr g2)⟩,
        fun h => by have h' := (nr h); obtain ⟨g0, g1, g2⟩ := f7 h'; exact ⟨g0, (Or.inr g1), (Or.inr g2)⟩,
        fun h => by have h' := (nr h); obtain ⟨g0, g1, g2⟩ := f8 h'; exact ⟨g0, (Or.inr g1), (Or.inr g2)⟩,
        fun h => by have h' := (nr h); obtain ⟨g0, g1, g2⟩ := f9 h'; exact ⟨g0, (Or.inr g1), (Or.inr g2)⟩,
        fun h => by have h' := (nr h); obtain ⟨g0, g1, g2, g3⟩ := f10 h'; exact ⟨g0, g1, ⟨_, hnew, rfl⟩, (Nat.le_trans g3 hsp.size)⟩,
        fun h => by have h' := (nr h); have := x6 d10 h'; obtain ⟨g0, g1, g2, g3⟩ := f11 h'; exact ⟨g0, g1, (by obtain ⟨cs, hcs, hcz⟩ := g2; exact ⟨cs, hcs.span hsp (by omega), hcz⟩), (Nat.le_trans g3 hsp.size)⟩,
        fun _ => ⟨hnew, e10_1, Or.inr e7_1, Or.inr e7_2, Or.inr d10⟩,
        fun h => by have h' := (nr h); obtain ⟨g0, g1, g2, g3, g4⟩ := f13 h'; have := x6 d10 g4; exact ⟨(g0.span hsp (by omega)), g1, (Or.inr g2), (Or.inr g3), (Or.inr g4)⟩,
        fun h => by have h' := (nr h); obtain ⟨g0, g1, g2⟩ := f14 h'; exact ⟨g0, (Or.inr g1), (Or.inr g2)⟩,
        fun h1 h2 => x0 (nr h1) (nr h2),
        fun h1 h2 => x1 (nr h1) (nr h2),
        fun h1 h2 => x2 (nr h1) (nr h2),
        fun h1 h2 => x3 (nr h1) (nr h2),
        fun h1 h2 => x4 (nr h1) (nr h2),
        fun h1 h2 => x5 (nr h1) (nr h2),
        fun h1 h2 => x6 (nr h1) (nr h2)⟩
    · have d11 := waits u13_11 hdep
      obtain ⟨e11_0, e11_1, e11_2, e11_3⟩ := f11 d11
      have d8 := waits u13_8 hdep
      obtain ⟨e8_0, e8_1, e8_2⟩ := f8 d8
      obtain ⟨cs, hcs, hcz⟩ := e11_2
      obtain ⟨w', hst, hnew, hsp⟩ := storeIR hcs hcz
      refine op_store o13 e11_0 e8_0 hst ?_
      have hb' := hb.trans (hsp.below e11_1 hbs)
      exact ⟨hf, hb', P, Q', g, glo, ghi, ra, rcap, lo, hi, ra2, rcap2, lo2, hi2, fun h => by have h' := (nr h); have g0 := f0 h'; exact g0,
        fun h => by have h' := (nr h); have g0 := f1 h'; exact g0,
        fun h => by have h' := (nr h); have g0 := f2 h'; exact g0,
        fun h => by have h' := (nr h); have := x1 h' d11; obtain ⟨g0, g1, g2, g3⟩ := f3 h'; exact ⟨g0, (g1.span hsp (by omega)), g2, (Nat.le_trans g3 hsp.size)⟩,
        fun h => by have h' := (nr h); have g0 := f4 h'; exact g0,
        fun h => by have h' := (nr h); have := x4 h' d11; have := x5 h' d11; obtain ⟨g0, g1, g2, g3, g4, g5, g6⟩ := f5 h'; exact ⟨g0, (g1.span hsp (by omega)), (g2.span hsp (by omega)), g3, (Nat.le_trans g4 hsp.size), (Nat.le_trans g5 hsp.size), (Or.inr g6)⟩,
        fun h => by have h' := (nr h); obtain ⟨g0, g1, g2⟩ := f6 h'; exact ⟨g0, (Or.inr g1), (Or.inr g2)⟩,
        fun h => by have h' := (nr h); obtain ⟨g0, g1, g2⟩ := f7 h'; exact ⟨g0, (Or.inr g1), (Or.inr g2)⟩,
        fun h => by have h' := (nr h); obtain ⟨g0, g1, g2⟩ := f8 h'; exact ⟨g0, (Or.inr g1), (Or.inr g2)⟩,
        fun h => by have h' := (nr h); obtain ⟨g0, g1, g2⟩ := f9 h'; exact ⟨g0, (Or.inr g1), (Or.inr g2)⟩,
        fun h => by have h' := (nr h); have := x6 h' d11; obtain ⟨g0, g1, g2, g3⟩ := f10 h'; exact ⟨g0, g1, (by obtain ⟨cs, hcs, hcz⟩ := g2; exact ⟨cs, hcs.span hsp (by omega), hcz⟩), (Nat.le_trans g3 hsp.size)⟩,
        fun h => by have h' := (nr h); obtain ⟨g0, g1, g2, g3⟩ := f11 h'; exact ⟨g0, g1, ⟨_, hnew, rfl⟩, (Nat.le_trans g3 hsp.size)⟩,
        fun h => by have h' := (nr h); obtain ⟨g0, g1, g2, g3, g4⟩ := f12 h'; have := x6 g4 d11; exact ⟨(g0.span hsp (by omega)), g1, (Or.inr g2), (Or.inr g3), (Or.inr g4)⟩,
        fun _ => ⟨hnew, e11_1, Or.inr e8_1, Or.inr e8_2, Or.inr d11⟩,
        fun h => by have h' := (nr h); obtain ⟨g0, g1, g2⟩ := f14 h'; exact ⟨g0, (Or.inr g1), (Or.inr g2)⟩,
        fun h1 h2 => x0 (nr h1) (nr h2),
        fun h1 h2 => x1 (nr h1) (nr h2),
        fun h1 h2 => x2 (nr h1) (nr h2),
        fun h1 h2 => x3 (nr h1) (nr h2),
        fun h1 h2 => x4 (nr h1) (nr h2),
        fun h1 h2 => x5 (nr h1) (nr h2),
        fun h1 h2 => x6 (nr h1) (nr h2)⟩
    · have d9 := waits u14_9 hdep
      obtain ⟨e9_0, e9_1, e9_2⟩ := f9 d9
      refine op_assign o14 e9_0 ?_
      exact ⟨hf.put (by decide) _, hb, P, Q', g, glo, ghi, ra, rcap, lo, hi, ra2, rcap2, lo2, hi2, fun h => K0 _ _ _ (by decide) rf (nr h),
        fun h => K1 _ _ _ (by decide) rf (nr h),
        fun h => K2 _ _ _ (by decide) rf (nr h),
        fun h => K3 _ _ _ (by decide) rf (nr h),
        fun h => K4 _ _ _ (by decide) rf (nr h),
        fun h => K5 _ _ _ (by decide) rf (nr h),
        fun h => K6 _ _ _ (by decide) rf (nr h),
        fun h => K7 _ _ _ (by decide) rf (nr h),
        fun h => K8 _ _ _ (by decide) rf (nr h),
        fun h => K9 _ _ _ (by decide) rf (nr h),
        fun h => K10 _ _ _ (by decide) rf (nr h),
        fun h => K11 _ _ _ (by decide) rf (nr h),
        fun h => K12 _ rf (nr h),
        fun h => K13 _ rf (nr h),
        fun _ => ⟨eval_put_self (by rw [hz]; decide), Or.inr e9_1, Or.inr e9_2⟩,
        fun h1 h2 => x0 (nr h1) (nr h2),
        fun h1 h2 => x1 (nr h1) (nr h2),
        fun h1 h2 => x2 (nr h1) (nr h2),
        fun h1 h2 => x3 (nr h1) (nr h2),
        fun h1 h2 => x4 (nr h1) (nr h2),
        fun h1 h2 => x5 (nr h1) (nr h2),
        fun h1 h2 => x6 (nr h1) (nr h2)⟩
  · intro D a w hD hI
    obtain ⟨hf, hb, P, Q', g, glo, ghi, ra, rcap, lo, hi, ra2, rcap2, lo2, hi2, f0, f1, f2, f3, f4, f5, f6, f7, f8, f9, f10, f11, f12, f13, f14, x0, x1, x2, x3, x4, x5, x6⟩ := hI
    rw [hn] at hD
    have e0_0 := f0 (hD 0 (by decide))
    have e1_0 := f1 (hD 1 (by decide))
    have e2_0 := f2 (hD 2 (by decide))
    obtain ⟨e3_0, e3_1, e3_2, e3_3⟩ := f3 (hD 3 (by decide))
    have e4_0 := f4 (hD 4 (by decide))
    obtain ⟨e5_0, e5_1, e5_2, e5_3, e5_4, e5_5, e5_6⟩ := f5 (hD 5 (by decide))
    obtain ⟨e6_0, e6_1, e6_2⟩ := f6 (hD 6 (by decide))
    obtain ⟨e7_0, e7_1, e7_2⟩ := f7 (hD 7 (by decide))
    obtain ⟨e8_0, e8_1, e8_2⟩ := f8 (hD 8 (by decide))
    obtain ⟨e9_0, e9_1, e9_2⟩ := f9 (hD 9 (by decide))
    obtain ⟨e10_0, e10_1, e10_2, e10_3⟩ := f10 (hD 10 (by decide))
    obtain ⟨e11_0, e11_1, e11_2, e11_3⟩ := f11 (hD 11 (by decide))
    obtain ⟨e12_0, e12_1, e12_2, e12_3, e12_4⟩ := f12 (hD 12 (by decide))
    obtain ⟨e13_0, e13_1, e13_2, e13_3, e13_4⟩ := f13 (hD 13 (by decide))
    obtain ⟨e14_0, e14_1, e14_2⟩ := f14 (hD 14 (by decide))
    have y0 := x0 (hD 3 (by decide)) (hD 10 (by decide))
    have y1 := x1 (hD 3 (by decide)) (hD 11 (by decide))
    have y2 := x2 (hD 5 (by decide)) (hD 10 (by decide))
    have y3 := x3 (hD 5 (by decide)) (hD 10 (by decide))
    have y4 := x4 (hD 5 (by decide)) (hD 11 (by decide))
    have y5 := x5 (hD 5 (by decide)) (hD 11 (by decide))
    have y6 := x6 (hD 10 (by decide)) (hD 11 (by decide))
    have hw := hb.size
    obtain ⟨n1, n2, n3, n4, n5⟩ := e5_3
    exact hQ a w hf ⟨P, Q', ra, rcap, ra2, rcap2, lo, hi, lo2, hi2, e10_0, e11_0, e14_0, e12_0, e13_0, e5_1, e5_2, ⟨by omega, by omega, by omega, by omega, by omega, by omega, by omega, n3, n4, n5, by omega, by omega, by omega, by omega⟩, hb⟩
  · exact ⟨FrameIs.refl _ _, (Below.refl _ _).drew, 0, 0, 0, 0, 0, none, 0, 0, 0, none, 0, 0, 0, fun h => False.elim h, fun h => False.elim h, fun h => False.elim h, fun h => False.elim h, fun h => False.elim h, fun h => False.elim h, fun h => False.elim h, fun h => False.elim h, fun h => False.elim h, fun h => False.elim h, fun h => False.elim h, fun h => False.elim h, fun h => False.elim h, fun h => False.elim h, fun h => False.elim h, fun h => False.elim h, fun h => False.elim h, fun h => False.elim h, fun h => False.elim h, fun h => False.elim h, fun h => False.elim h, fun h => False.elim h⟩

end Go.Proofs.Ytblchdmemhhcbaa
