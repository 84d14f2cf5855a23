/-
  The regions of FnExactStep that leave their order open, each walked once.
-/
import Derived.Test.YtblchdmemhhcbaaGreatQSRegCpu
namespace Go.Proofs.YtblchdmemhhcbaaGreat
set_option linter.unusedVariables false
set_option linter.unusedSimpArgs false
open Go.RowKit

theorem stepReg5_ops (ops : Array Oper) (h : regionOps 5 (Tryz.f7.body.getD .skip) = some ops) : backward ops = true ∧ ops.size = 14 ∧ IsOp ops 0 (some 25) (.load 50 (.tmp 2)) ∧ IsOp ops 1 (some 26) (.call ⟨.value (.func 23), #[.tmp 25], #[50]⟩) ∧ IsOp ops 2 (some 27) (.load 51 (.tmp 3)) ∧ IsOp ops 3 (some 28) (.call ⟨.value (.func 24), #[.tmp 27], #[51]⟩) ∧ IsOp ops 4 (some 29) (.call ⟨.value (.func 11), #[.tmp 26, .tmp 28], #[28, 30]⟩) ∧ IsOp ops 5 (some 24) (.move (.tmp 29)) ∧ IsOp ops 6 (some 30) (.extract (.tmp 24) 0) ∧ IsOp ops 7 (some 31) (.extract (.tmp 24) 1) ∧ IsOp ops 8 (some 32) (.extract (.tmp 24) 2) ∧ IsOp ops 9 (some 6) (.alloc 28) ∧ IsOp ops 10 (some 7) (.alloc 30) ∧ IsOp ops 11 none (.store 28 (.tmp 6) (.tmp 30)) ∧ IsOp ops 12 none (.store 30 (.tmp 7) (.tmp 31)) ∧ IsOp ops 13 (some 8) (.assign (.tmp 32)) ∧ Waits ops 1 0 ∧ Waits ops 3 2 ∧ Waits ops 4 1 ∧ Waits ops 4 3 ∧ Waits ops 5 4 ∧ Waits ops 6 5 ∧ Waits ops 7 5 ∧ Waits ops 8 5 ∧ Waits ops 11 9 ∧ Waits ops 11 6 ∧ Waits ops 12 10 ∧ Waits ops 12 7 ∧ Waits ops 13 8 := by
  obtain rfl : ops = (regionOps 5 (Tryz.f7.body.getD .skip)).getD #[] := by rw [h]; rfl
  exact ⟨by kernel_rfl, by kernel_rfl, by unfold IsOp; kernel_rfl, by unfold IsOp; kernel_rfl, by unfold IsOp; kernel_rfl, by unfold IsOp; kernel_rfl, by unfold IsOp; kernel_rfl, by unfold IsOp; kernel_rfl, by unfold IsOp; kernel_rfl, by unfold IsOp; kernel_rfl, by unfold IsOp; kernel_rfl, by unfold IsOp; kernel_rfl, by unfold IsOp; kernel_rfl, by unfold IsOp; kernel_rfl, by unfold IsOp; kernel_rfl, by unfold IsOp; kernel_rfl, by unfold Waits; kernel_rfl, by unfold Waits; kernel_rfl, by unfold Waits; kernel_rfl, by unfold Waits; kernel_rfl, by unfold Waits; kernel_rfl, by unfold Waits; kernel_rfl, by unfold Waits; kernel_rfl, by unfold Waits; kernel_rfl, by unfold Waits; kernel_rfl, by unfold Waits; kernel_rfl, by unfold Waits; kernel_rfl, by unfold Waits; kernel_rfl, by unfold Waits; kernel_rfl⟩

abbrev stepReg5_I (c : CpuN) (r : CpuN × BusN) (L : List Nat) (sa : Option Addr) (cap : Nat) (V : World) (a0 : Act) (D : Nat → Prop) (a : Act) (w : World) : Prop :=
  FrameIs a0 [6, 7, 8, 24, 25, 26, 27, 28, 29, 30, 31, 32] a ∧ Below V.heap.size V w ∧ ∃ (P : Nat) (Q' : Nat) (g : Nat) (glo : Nat) (ghi : Nat) (ra : Option Addr) (rcap : Nat) (lo : Nat) (hi : Nat) (ra2 : Option Addr) (rcap2 : Nat) (lo2 : Nat) (hi2 : Nat), (D 0 → a.eval (.tmp 25) = cpuV c) ∧ (D 1 → a.eval (.tmp 26) = cpuV c) ∧ (D 2 → a.eval (.tmp 27) = ramV (.slice sa L.length cap)) ∧ (D 3 → a.eval (.tmp 28) = ramV (.slice (some ⟨g, 0, none⟩) L.length L.length) ∧ SegB w glo ghi (.slice (some ⟨g, 0, none⟩) L.length L.length) (L) ∧ (V.heap.size ≤ glo) ∧ ghi ≤ w.heap.size) ∧ (D 4 → a.eval (.tmp 29) = .tuple #[cpuV r.1, ramV (.slice ra r.2.mem.length rcap), .slice ra2 r.2.log.length rcap2] ∧ SegB w lo hi (.slice ra r.2.mem.length rcap) (r.2.mem) ∧ SegC w lo2 hi2 (.slice ra2 r.2.log.length rcap2) (r.2.log) ∧ (V.heap.size ≤ lo ∧ V.heap.size ≤ lo2 ∧ lo ≤ hi ∧ lo2 ≤ hi2 ∧ (hi ≤ lo2 ∨ hi2 ≤ lo)) ∧ hi ≤ w.heap.size ∧ hi2 ≤ w.heap.size ∧ D 3) ∧ (D 5 → a.eval (.tmp 24) = .tuple #[cpuV r.1, ramV (.slice ra r.2.mem.length rcap), .slice ra2 r.2.log.length rcap2] ∧ D 3 ∧ D 4) ∧ (D 6 → a.eval (.tmp 30) = cpuV r.1 ∧ D 3 ∧ D 4) ∧ (D 7 → a.eval (.tmp 31) = ramV (.slice ra r.2.mem.length rcap) ∧ D 3 ∧ D 4) ∧ (D 8 → a.eval (.tmp 32) = .slice ra2 r.2.log.length rcap2 ∧ D 3 ∧ D 4) ∧ (D 9 → a.eval (.tmp 6) = .pointer (some ⟨P, 0, none⟩) ∧ (V.heap.size ≤ P) ∧ (∃ cs : Array Value, BoxN w P 28 cs ∧ cs.size = 11) ∧ P + 1 ≤ w.heap.size) ∧ (D 10 → a.eval (.tmp 7) = .pointer (some ⟨Q', 0, none⟩) ∧ (V.heap.size ≤ Q') ∧ (∃ cs : Array Value, BoxN w Q' 30 cs ∧ cs.size = 1) ∧ Q' + 1 ≤ w.heap.size) ∧ (D 11 → BoxN w P 28 (cpuCells r.1) ∧ D 3 ∧ D 4 ∧ D 9) ∧ (D 12 → BoxN w Q' 30 #[.slice ra r.2.mem.length rcap] ∧ D 3 ∧ D 4 ∧ D 10) ∧ (D 13 → a.eval (.tmp 8) = .slice ra2 r.2.log.length rcap2 ∧ D 3 ∧ D 4) ∧ (D 3 → D 9 → (ghi ≤ P ∨ P + 1 ≤ glo)) ∧ (D 3 → D 10 → (ghi ≤ Q' ∨ Q' + 1 ≤ glo)) ∧ (D 4 → D 9 → (hi ≤ P ∨ P + 1 ≤ lo)) ∧ (D 4 → D 9 → (hi2 ≤ P ∨ P + 1 ≤ lo2)) ∧ (D 4 → D 10 → (hi ≤ Q' ∨ Q' + 1 ≤ lo)) ∧ (D 4 → D 10 → (hi2 ≤ Q' ∨ Q' + 1 ≤ lo2)) ∧ (D 9 → D 10 → (P + 1 ≤ Q' ∨ Q' + 1 ≤ P))

set_option maxRecDepth 100000 in
set_option maxHeartbeats 4000000 in
theorem stepReg5 (c : CpuN) (r : CpuN × BusN) (L : List Nat) (sa : Option Addr) (cap : Nat) (hl : L.length ≤ 1048576) (V : World) (C R : Nat) (hC : BoxN V C 50 (cpuCells c)) (hR : BoxN V R 51 #[.slice sa L.length cap]) (hrow : RowB V sa L) (HS : ∀ (g : Nat) (W : World), RowB W (some ⟨g, 0, none⟩) L → Calls Tryz.prog 11 #[cpuV c, ramV (.slice (some ⟨g, 0, none⟩) L.length L.length)] W (Stepped W r)) (a0 : Act) (h2 : a0.eval (.tmp 2) = .pointer (some ⟨C, 0, none⟩)) (h3 : a0.eval (.tmp 3) = .pointer (some ⟨R, 0, none⟩)) (hsz : a0.tmps.size = 144) (Q : Exit → Act → World → Prop)
    (hQ : ∀ a w, FrameIs a0 [6, 7, 8, 24, 25, 26, 27, 28, 29, 30, 31, 32] a → Took3 V r (a.eval (.tmp 6)) (a.eval (.tmp 7)) (a.eval (.tmp 8)) w → Q .normal a w)
    (ops : Array Oper) (hops : regionOps 5 (Tryz.f7.body.getD .skip) = some ops) (id : Nat) : (Code.region id ops true).wp Tryz.prog Q a0 V := by
  obtain ⟨hbk, hn, o0, o1, o2, o3, o4, o5, o6, o7, o8, o9, o10, o11, o12, o13, u1_0, u3_2, u4_1, u4_3, u5_4, u6_5, u7_5, u8_5, u11_9, u11_6, u12_10, u12_7, u13_8⟩ := stepReg5_ops ops hops
  clear hops
  refine wp_region_facts (by kernel_rfl) hbk (stepReg5_I c r L sa cap V a0) ?_ ?_ id a0 V ?_
  · intro i hin D a w hnd hdep hI
    obtain ⟨hf, hb, P, Q', g, glo, ghi, ra, rcap, lo, hi, ra2, rcap2, lo2, hi2, f0, f1, f2, f3, f4, f5, f6, f7, f8, f9, f10, f11, f12, f13, x0, x1, x2, x3, x4, x5, x6⟩ := hI
    rw [hn] at hin
    have hz : a.tmps.size = 144 := hf.size.trans hsz
    have hbs := hb.size
    obtain (rfl | rfl | rfl | rfl | rfl | rfl | rfl | rfl | rfl | rfl | rfl | rfl | rfl | rfl) : i = 0 ∨ i = 1 ∨ i = 2 ∨ i = 3 ∨ i = 4 ∨ i = 5 ∨ i = 6 ∨ i = 7 ∨ i = 8 ∨ i = 9 ∨ i = 10 ∨ i = 11 ∨ i = 12 ∨ i = 13 := by omega
    · refine op_load o0 ((hf.eval (by decide)).trans h2) (loadLC (hC.below hb)) ?_
      exact ⟨hf.put (by decide) _, hb, P, Q', g, glo, ghi, ra, rcap, lo, hi, ra2, rcap2, lo2, hi2, fun _ => eval_put_self (by rw [hz]; decide),
        fun h => by have h' := Or.resolve_left h (by decide); have g0 := f1 h'; exact ((eval_put_ne (by decide)).trans g0),
        fun h => by have h' := Or.resolve_left h (by decide); have g0 := f2 h'; exact ((eval_put_ne (by decide)).trans g0),
        fun h => by have h' := Or.resolve_left h (by decide); obtain ⟨g0, g1, g2, g3⟩ := f3 h'; exact ⟨((eval_put_ne (by decide)).trans g0), g1, g2, g3⟩,
        fun h => by have h' := Or.resolve_left h (by decide); obtain ⟨g0, g1, g2, g3, g4, g5, g6⟩ := f4 h'; exact ⟨((eval_put_ne (by decide)).trans g0), g1, g2, g3, g4, g5, (Or.inr g6)⟩,
        fun h => by have h' := Or.resolve_left h (by decide); obtain ⟨g0, g1, g2⟩ := f5 h'; exact ⟨((eval_put_ne (by decide)).trans g0), (Or.inr g1), (Or.inr g2)⟩,
        fun h => by have h' := Or.resolve_left h (by decide); obtain ⟨g0, g1, g2⟩ := f6 h'; exact ⟨((eval_put_ne (by decide)).trans g0), (Or.inr g1), (Or.inr g2)⟩,
        fun h => by have h' := Or.resolve_left h (by decide); obtain ⟨g0, g1, g2⟩ := f7 h'; exact ⟨((eval_put_ne (by decide)).trans g0), (Or.inr g1), (Or.inr g2)⟩,
        fun h => by have h' := Or.resolve_left h (by decide); obtain ⟨g0, g1, g2⟩ := f8 h'; exact ⟨((eval_put_ne (by decide)).trans g0), (Or.inr g1), (Or.inr g2)⟩,
        fun h => by have h' := Or.resolve_left h (by decide); obtain ⟨g0, g1, g2, g3⟩ := f9 h'; exact ⟨((eval_put_ne (by decide)).trans g0), g1, g2, g3⟩,
        fun h => by have h' := Or.resolve_left h (by decide); obtain ⟨g0, g1, g2, g3⟩ := f10 h'; exact ⟨((eval_put_ne (by decide)).trans g0), g1, g2, g3⟩,
        fun h => by have h' := Or.resolve_left h (by decide); obtain ⟨g0, g1, g2, g3⟩ := f11 h'; exact ⟨g0, (Or.inr g1), (Or.inr g2), (Or.inr g3)⟩,
        fun h => by have h' := Or.resolve_left h (by decide); obtain ⟨g0, g1, g2, g3⟩ := f12 h'; exact ⟨g0, (Or.inr g1), (Or.inr g2), (Or.inr g3)⟩,
        fun h => by have h' := Or.resolve_left h (by decide); obtain ⟨g0, g1, g2⟩ := f13 h'; exact ⟨((eval_put_ne (by decide)).trans g0), (Or.inr g1), (Or.inr g2)⟩,
        fun h1 h2 => x0 (Or.resolve_left h1 (by decide)) (Or.resolve_left h2 (by decide)),
        fun h1 h2 => x1 (Or.resolve_left h1 (by decide)) (Or.resolve_left h2 (by decide)),
        fun h1 h2 => x2 (Or.resolve_left h1 (by decide)) (Or.resolve_left h2 (by decide)),
        fun h1 h2 => x3 (Or.resolve_left h1 (by decide)) (Or.resolve_left h2 (by decide)),
        fun h1 h2 => x4 (Or.resolve_left h1 (by decide)) (Or.resolve_left h2 (by decide)),
        fun h1 h2 => x5 (Or.resolve_left h1 (by decide)) (Or.resolve_left h2 (by decide)),
        fun h1 h2 => x6 (Or.resolve_left h1 (by decide)) (Or.resolve_left h2 (by decide))⟩
    · have d0 := waits u1_0 hdep
      have e0_0 := f0 d0
      refine op_call o1 (by simp only [List.map_toArray, List.map_cons, List.map_nil, e0_0]) rfl ((toCpu_any c _).mono ?_)
      rintro e w' ⟨rfl, hbw⟩
      have hbz := hbw.size
      have hb' := below_step hb hbw (Nat.le_refl _)
      refine ⟨_, rfl, ?_⟩
      exact ⟨hf.put (by decide) _, hb', P, Q', g, glo, ghi, ra, rcap, lo, hi, ra2, rcap2, lo2, hi2, fun h => by have h' := Or.resolve_left h (by decide); have g0 := f0 h'; exact ((eval_put_ne (by decide)).trans g0),
        fun _ => eval_put_self (by rw [hz]; decide),
        fun h => by have h' := Or.resolve_left h (by decide); have g0 := f2 h'; exact ((eval_put_ne (by decide)).trans g0),
        fun h => by have h' := Or.resolve_left h (by decide); obtain ⟨g0, g1, g2, g3⟩ := f3 h'; exact ⟨((eval_put_ne (by decide)).trans g0), (g1.below hbw), g2, (Nat.le_trans g3 hbw.size)⟩,
        fun h => by have h' := Or.resolve_left h (by decide); obtain ⟨g0, g1, g2, g3, g4, g5, g6⟩ := f4 h'; exact ⟨((eval_put_ne (by decide)).trans g0), (g1.below hbw), (g2.below hbw), g3, (Nat.le_trans g4 hbw.size), (Nat.le_trans g5 hbw.size), (Or.inr g6)⟩,
        fun h => by have h' := Or.resolve_left h (by decide); obtain ⟨g0, g1, g2⟩ := f5 h'; exact ⟨((eval_put_ne (by decide)).trans g0), (Or.inr g1), (Or.inr g2)⟩,
        fun h => by have h' := Or.resolve_left h (by decide); obtain ⟨g0, g1, g2⟩ := f6 h'; exact ⟨((eval_put_ne (by decide)).trans g0), (Or.inr g1), (Or.inr g2)⟩,
        fun h => by have h' := Or.resolve_left h (by decide); obtain ⟨g0, g1, g2⟩ := f7 h'; exact ⟨((eval_put_ne (by decide)).trans g0), (Or.inr g1), (Or.inr g2)⟩,
        fun h => by have h' := Or.resolve_left h (by decide); obtain ⟨g0, g1, g2⟩ := f8 h'; exact ⟨((eval_put_ne (by decide)).trans g0), (Or.inr g1), (Or.inr g2)⟩,
        fun h => by have h' := Or.resolve_left h (by decide); obtain ⟨g0, g1, g2, g3⟩ := f9 h'; exact ⟨((eval_put_ne (by decide)).trans g0), g1, (by obtain ⟨cs, hcs, hcz⟩ := g2; exact ⟨cs, hcs.below hbw, hcz⟩), (Nat.le_trans g3 hbw.size)⟩,
        fun h => by have h' := Or.resolve_left h (by decide); obtain ⟨g0, g1, g2, g3⟩ := f10 h'; exact ⟨((eval_put_ne (by decide)).trans g0), g1, (by obtain ⟨cs, hcs, hcz⟩ := g2; exact ⟨cs, hcs.below hbw, hcz⟩), (Nat.le_trans g3 hbw.size)⟩,
        fun h => by have h' := Or.resolve_left h (by decide); obtain ⟨g0, g1, g2, g3⟩ := f11 h'; exact ⟨(g0.below hbw), (Or.inr g1), (Or.inr g2), (Or.inr g3)⟩,
        fun h => by have h' := Or.resolve_left h (by decide); obtain ⟨g0, g1, g2, g3⟩ := f12 h'; exact ⟨(g0.below hbw), (Or.inr g1), (Or.inr g2), (Or.inr g3)⟩,
        fun h => by have h' := Or.resolve_left h (by decide); obtain ⟨g0, g1, g2⟩ := f13 h'; exact ⟨((eval_put_ne (by decide)).trans g0), (Or.inr g1), (Or.inr g2)⟩,
        fun h1 h2 => x0 (Or.resolve_left h1 (by decide)) (Or.resolve_left h2 (by decide)),
        fun h1 h2 => x1 (Or.resolve_left h1 (by decide)) (Or.resolve_left h2 (by decide)),
        fun h1 h2 => x2 (Or.resolve_left h1 (by decide)) (Or.resolve_left h2 (by decide)),
        fun h1 h2 => x3 (Or.resolve_left h1 (by decide)) (Or.resolve_left h2 (by decide)),
        fun h1 h2 => x4 (Or.resolve_left h1 (by decide)) (Or.resolve_left h2 (by decide)),
        fun h1 h2 => x5 (Or.resolve_left h1 (by decide)) (Or.resolve_left h2 (by decide)),
        fun h1 h2 => x6 (Or.resolve_left h1 (by decide)) (Or.resolve_left h2 (by decide))⟩
    · refine op_load o2 ((hf.eval (by decide)).trans h3) (loadLR (hR.below hb)) ?_
      exact ⟨hf.put (by decide) _, hb, P, Q', g, glo, ghi, ra, rcap, lo, hi, ra2, rcap2, lo2, hi2, fun h => by have h' := Or.resolve_left h (by decide); have g0 := f0 h'; exact ((eval_put_ne (by decide)).trans g0),
        fun h => by have h' := Or.resolve_left h (by decide); have g0 := f1 h'; exact ((eval_put_ne (by decide)).trans g0),
        fun _ => eval_put_self (by rw [hz]; decide),
        fun h => by have h' := Or.resolve_left h (by decide); obtain ⟨g0, g1, g2, g3⟩ := f3 h'; exact ⟨((eval_put_ne (by decide)).trans g0), g1, g2, g3⟩,
        fun h => by have h' := Or.resolve_left h (by decide); obtain ⟨g0, g1, g2, g3, g4, g5, g6⟩ := f4 h'; exact ⟨((eval_put_ne (by decide)).trans g0), g1, g2, g3, g4, g5, (Or.inr g6)⟩,
        fun h => by have h' := Or.resolve_left h (by decide); obtain ⟨g0, g1, g2⟩ := f5 h'; exact ⟨((eval_put_ne (by decide)).trans g0), (Or.inr g1), (Or.inr g2)⟩,
        fun h => by have h' := Or.resolve_left h (by decide); obtain ⟨g0, g1, g2⟩ := f6 h'; exact ⟨((eval_put_ne (by decide)).trans g0), (Or.inr g1), (Or.inr g2)⟩,
        fun h => by have h' := Or.resolve_left h (by decide); obtain ⟨g0, g1, g2⟩ := f7 h'; exact ⟨((eval_put_ne (by decide)).trans g0), (Or.inr g1), (Or.inr g2)⟩,
        fun h => by have h' := Or.resolve_left h (by decide); obtain ⟨g0, g1, g2⟩ := f8 h'; exact ⟨((eval_put_ne (by decide)).trans g0), (Or.inr g1), (Or.inr g2)⟩,
        fun h => by have h' := Or.resolve_left h (by decide); obtain ⟨g0, g1, g2, g3⟩ := f9 h'; exact ⟨((eval_put_ne (by decide)).trans g0), g1, g2, g3⟩,
        fun h => by have h' := Or.resolve_left h (by decide); obtain ⟨g0, g1, g2, g3⟩ := f10 h'; exact ⟨((eval_put_ne (by decide)).trans g0), g1, g2, g3⟩,
        fun h => by have h' := Or.resolve_left h (by decide); obtain ⟨g0, g1, g2, g3⟩ := f11 h'; exact ⟨g0, (Or.inr g1), (Or.inr g2), (Or.inr g3)⟩,
        fun h => by have h' := Or.resolve_left h (by decide); obtain ⟨g0, g1, g2, g3⟩ := f12 h'; exact ⟨g0, (Or.inr g1), (Or.inr g2), (Or.inr g3)⟩,
        fun h => by have h' := Or.resolve_left h (by decide); obtain ⟨g0, g1, g2⟩ := f13 h'; exact ⟨((eval_put_ne (by decide)).trans g0), (Or.inr g1), (Or.inr g2)⟩,
        fun h1 h2 => x0 (Or.resolve_left h1 (by decide)) (Or.resolve_left h2 (by decide)),
        fun h1 h2 => x1 (Or.resolve_left h1 (by decide)) (Or.resolve_left h2 (by decide)),
        fun h1 h2 => x2 (Or.resolve_left h1 (by decide)) (Or.resolve_left h2 (by decide)),
        fun h1 h2 => x3 (Or.resolve_left h1 (by decide)) (Or.resolve_left h2 (by decide)),
        fun h1 h2 => x4 (Or.resolve_left h1 (by decide)) (Or.resolve_left h2 (by decide)),
        fun h1 h2 => x5 (Or.resolve_left h1 (by decide)) (Or.resolve_left h2 (by decide)),
        fun h1 h2 => x6 (Or.resolve_left h1 (by decide)) (Or.resolve_left h2 (by decide))⟩
    · have d2 := waits u3_2 hdep
      have e2_0 := f2 d2
      refine op_call o3 (by simp only [List.map_toArray, List.map_cons, List.map_nil, e2_0]) rfl ((toRam_any sa cap L _ hl (RowB.below hrow hb)).mono ?_)
      rintro e w' ⟨g', rfl, om, hbw⟩
      have hbz := hbw.size
      have hb' := below_step hb hbw (Nat.le_refl _)
      refine ⟨_, rfl, ?_⟩
      exact ⟨hf.put (by decide) _, hb', P, Q', g', w.heap.size, w'.heap.size, ra, rcap, lo, hi, ra2, rcap2, lo2, hi2, fun h => by have h' := Or.resolve_left h (by decide); have g0 := f0 h'; exact ((eval_put_ne (by decide)).trans g0),
        fun h => by have h' := Or.resolve_left h (by decide); have g0 := f1 h'; exact ((eval_put_ne (by decide)).trans g0),
        fun h => by have h' := Or.resolve_left h (by decide); have g0 := f2 h'; exact ((eval_put_ne (by decide)).trans g0),
        fun _ => ⟨eval_put_self (by rw [hz]; decide), SegB.of om, hbs, Nat.le_refl _⟩,
        fun h => by have h' := Or.resolve_left h (by decide); obtain ⟨g0, g1, g2, g3, g4, g5, g6⟩ := f4 h'; exact absurd g6 hnd,
        fun h => by have h' := Or.resolve_left h (by decide); obtain ⟨g0, g1, g2⟩ := f5 h'; exact absurd g1 hnd,
        fun h => by have h' := Or.resolve_left h (by decide); obtain ⟨g0, g1, g2⟩ := f6 h'; exact absurd g1 hnd,
        fun h => by have h' := Or.resolve_left h (by decide); obtain ⟨g0, g1, g2⟩ := f7 h'; exact absurd g1 hnd,
        fun h => by have h' := Or.resolve_left h (by decide); obtain ⟨g0, g1, g2⟩ := f8 h'; exact absurd g1 hnd,
        fun h => by have h' := Or.resolve_left h (by decide); obtain ⟨g0, g1, g2, g3⟩ := f9 h'; exact ⟨((eval_put_ne (by decide)).trans g0), g1, (by obtain ⟨cs, hcs, hcz⟩ := g2; exact ⟨cs, hcs.below hbw, hcz⟩), (Nat.le_trans g3 hbw.size)⟩,
        fun h => by have h' := Or.resolve_left h (by decide); obtain ⟨g0, g1, g2, g3⟩ := f10 h'; exact ⟨((eval_put_ne (by decide)).trans g0), g1, (by obtain ⟨cs, hcs, hcz⟩ := g2; exact ⟨cs, hcs.below hbw, hcz⟩), (Nat.le_trans g3 hbw.size)⟩,
        fun h => by have h' := Or.resolve_left h (by decide); obtain ⟨g0, g1, g2, g3⟩ := f11 h'; exact absurd g1 hnd,
        fun h => by have h' := Or.resolve_left h (by decide); obtain ⟨g0, g1, g2, g3⟩ := f12 h'; exact absurd g1 hnd,
        fun h => by have h' := Or.resolve_left h (by decide); obtain ⟨g0, g1, g2⟩ := f13 h'; exact absurd g1 hnd,
        fun h1 h2 => by have h' := Or.resolve_left h2 (by decide); obtain ⟨g0, g1, g2, g3⟩ := f9 h'; omega,
        fun h1 h2 => by have h' := Or.resolve_left h2 (by decide); obtain ⟨g0, g1, g2, g3⟩ := f10 h'; omega,
        fun h1 h2 => x2 (Or.resolve_left h1 (by decide)) (Or.resolve_left h2 (by decide)),
        fun h1 h2 => x3 (Or.resolve_left h1 (by decide)) (Or.resolve_left h2 (by decide)),
        fun h1 h2 => x4 (Or.resolve_left h1 (by decide)) (Or.resolve_left h2 (by decide)),
        fun h1 h2 => x5 (Or.resolve_left h1 (by decide)) (Or.resolve_left h2 (by decide)),
        fun h1 h2 => x6 (Or.resolve_left h1 (by decide)) (Or.resolve_left h2 (by decide))⟩
    · have d1 := waits u4_1 hdep
      have e1_0 := f1 d1
      have d3 := waits u4_3 hdep
      obtain ⟨e3_0, e3_1, e3_2, e3_3⟩ := f3 d3
      refine op_call o4 (by simp only [List.map_toArray, List.map_cons, List.map_nil, e1_0, e3_0]) rfl ((HS g w e3_1.row).mono ?_)
      rintro e w' hst
      obtain ⟨ya, ycap, ya2, ycap2, ylo, yhi, ylo2, yhi2, rfl, sm, sc, ⟨q1, q2, q3, q4, q5, q6, q7⟩, hbw⟩ := hst.three
      have hbz := hbw.size
      have hb' := below_step hb hbw (Nat.le_refl _)
      refine ⟨_, rfl, ?_⟩
      exact ⟨hf.put (by decide) _, hb', P, Q', g, glo, ghi, ya, ycap, ylo, yhi, ya2, ycap2, ylo2, yhi2, fun h => by have h' := Or.resolve_left h (by decide); have g0 := f0 h'; exact ((eval_put_ne (by decide)).trans g0),
        fun h => by have h' := Or.resolve_left h (by decide); have g0 := f1 h'; exact ((eval_put_ne (by decide)).trans g0),
        fun h => by have h' := Or.resolve_left h (by decide); have g0 := f2 h'; exact ((eval_put_ne (by decide)).trans g0),
        fun h => by have h' := Or.resolve_left h (by decide); obtain ⟨g0, g1, g2, g3⟩ := f3 h'; exact ⟨((eval_put_ne (by decide)).trans g0), (g1.below hbw), g2, (Nat.le_trans g3 hbw.size)⟩,
        fun _ => ⟨eval_put_self (by rw [hz]; decide), sm, sc, ⟨by omega, by omega, q5, q6, q7⟩, q2, q4, Or.inr d3⟩,
        fun h => by have h' := Or.resolve_left h (by decide); obtain ⟨g0, g1, g2⟩ := f5 h'; exact absurd g2 hnd,
        fun h => by have h' := Or.resolve_left h (by decide); obtain ⟨g0, g1, g2⟩ := f6 h'; exact absurd g2 hnd,
        fun h => by have h' := Or.resolve_left h (by decide); obtain ⟨g0, g1, g2⟩ := f7 h'; exact absurd g2 hnd,
        fun h => by have h' := Or.resolve_left h (by decide); obtain ⟨g0, g1, g2⟩ := f8 h'; exact absurd g2 hnd,
        fun h => by have h' := Or.resolve_left h (by decide); obtain ⟨g0, g1, g2, g3⟩ := f9 h'; exact ⟨((eval_put_ne (by decide)).trans g0), g1, (by obtain ⟨cs, hcs, hcz⟩ := g2; exact ⟨cs, hcs.below hbw, hcz⟩), (Nat.le_trans g3 hbw.size)⟩,
        fun h => by have h' := Or.resolve_left h (by decide); obtain ⟨g0, g1, g2, g3⟩ := f10 h'; exact ⟨((eval_put_ne (by decide)).trans g0), g1, (by obtain ⟨cs, hcs, hcz⟩ := g2; exact ⟨cs, hcs.below hbw, hcz⟩), (Nat.le_trans g3 hbw.size)⟩,
        fun h => by have h' := Or.resolve_left h (by decide); obtain ⟨g0, g1, g2, g3⟩ := f11 h'; exact absurd g2 hnd,
        fun h => by have h' := Or.resolve_left h (by decide); obtain ⟨g0, g1, g2, g3⟩ := f12 h'; exact absurd g2 hnd,
        fun h => by have h' := Or.resolve_left h (by decide); obtain ⟨g0, g1, g2⟩ := f13 h'; exact absurd g2 hnd,
        fun h1 h2 => x0 (Or.resolve_left h1 (by decide)) (Or.resolve_left h2 (by decide)),
        fun h1 h2 => x1 (Or.resolve_left h1 (by decide)) (Or.resolve_left h2 (by decide)),
        fun h1 h2 => by have h' := Or.resolve_left h2 (by decide); obtain ⟨g0, g1, g2, g3⟩ := f9 h'; omega,
        fun h1 h2 => by have h' := Or.resolve_left h2 (by decide); obtain ⟨g0, g1, g2, g3⟩ := f9 h'; omega,
        fun h1 h2 => by have h' := Or.resolve_left h2 (by decide); obtain ⟨g0, g1, g2, g3⟩ := f10 h'; omega,
        fun h1 h2 => by have h' := Or.resolve_left h2 (by decide); obtain ⟨g0, g1, g2, g3⟩ := f10 h'; omega,
        fun h1 h2 => x6 (Or.resolve_left h1 (by decide)) (Or.resolve_left h2 (by decide))⟩
    · have d4 := waits u5_4 hdep
      obtain ⟨e4_0, e4_1, e4_2, e4_3, e4_4, e4_5, e4_6⟩ := f4 d4
      refine op_move o5 e4_0 ?_
      exact ⟨hf.put (by decide) _, hb, P, Q', g, glo, ghi, ra, rcap, lo, hi, ra2, rcap2, lo2, hi2, fun h => by have h' := Or.resolve_left h (by decide); have g0 := f0 h'; exact ((eval_put_ne (by decide)).trans g0),
        fun h => by have h' := Or.resolve_left h (by decide); have g0 := f1 h'; exact ((eval_put_ne (by decide)).trans g0),
        fun h => by have h' := Or.resolve_left h (by decide); have g0 := f2 h'; exact ((eval_put_ne (by decide)).trans g0),
        fun h => by have h' := Or.resolve_left h (by decide); obtain ⟨g0, g1, g2, g3⟩ := f3 h'; exact ⟨((eval_put_ne (by decide)).trans g0), g1, g2, g3⟩,
        fun h => by have h' := Or.resolve_left h (by decide); obtain ⟨g0, g1, g2, g3, g4, g5, g6⟩ := f4 h'; exact ⟨((eval_put_ne (by decide)).trans g0), g1, g2, g3, g4, g5, (Or.inr g6)⟩,
        fun _ => ⟨eval_put_self (by rw [hz]; decide), Or.inr e4_6, Or.inr d4⟩,
        fun h => by have h' := Or.resolve_left h (by decide); obtain ⟨g0, g1, g2⟩ := f6 h'; exact ⟨((eval_put_ne (by decide)).trans g0), (Or.inr g1), (Or.inr g2)⟩,
        fun h => by have h' := Or.resolve_left h (by decide); obtain ⟨g0, g1, g2⟩ := f7 h'; exact ⟨((eval_put_ne (by decide)).trans g0), (Or.inr g1), (Or.inr g2)⟩,
        fun h => by have h' := Or.resolve_left h (by decide); obtain ⟨g0, g1, g2⟩ := f8 h'; exact ⟨((eval_put_ne (by decide)).trans g0), (Or.inr g1), (Or.inr g2)⟩,
        fun h => by have h' := Or.resolve_left h (by decide); obtain ⟨g0, g1, g2, g3⟩ := f9 h'; exact ⟨((eval_put_ne (by decide)).trans g0), g1, g2, g3⟩,
        fun h => by have h' := Or.resolve_left h (by decide); obtain ⟨g0, g1, g2, g3⟩ := f10 h'; exact ⟨((eval_put_ne (by decide)).trans g0), g1, g2, g3⟩,
        fun h => by have h' := Or.resolve_left h (by decide); obtain ⟨g0, g1, g2, g3⟩ := f11 h'; exact ⟨g0, (Or.inr g1), (Or.inr g2), (Or.inr g3)⟩,
        fun h => by have h' := Or.resolve_left h (by decide); obtain ⟨g0, g1, g2, g3⟩ := f12 h'; exact ⟨g0, (Or.inr g1), (Or.inr g2), (Or.inr g3)⟩,
        fun h => by have h' := Or.resolve_left h (by decide); obtain ⟨g0, g1, g2⟩ := f13 h'; exact ⟨((eval_put_ne (by decide)).trans g0), (Or.inr g1), (Or.inr g2)⟩,
        fun h1 h2 => x0 (Or.resolve_left h1 (by decide)) (Or.resolve_left h2 (by decide)),
        fun h1 h2 => x1 (Or.resolve_left h1 (by decide)) (Or.resolve_left h2 (by decide)),
        fun h1 h2 => x2 (Or.resolve_left h1 (by decide)) (Or.resolve_left h2 (by decide)),
        fun h1 h2 => x3 (Or.resolve_left h1 (by decide)) (Or.resolve_left h2 (by decide)),
        fun h1 h2 => x4 (Or.resolve_left h1 (by decide)) (Or.resolve_left h2 (by decide)),
        fun h1 h2 => x5 (Or.resolve_left h1 (by decide)) (Or.resolve_left h2 (by decide)),
        fun h1 h2 => x6 (Or.resolve_left h1 (by decide)) (Or.resolve_left h2 (by decide))⟩
    · have d5 := waits u6_5 hdep
      obtain ⟨e5_0, e5_1, e5_2⟩ := f5 d5
      refine op_extract o6 e5_0 (by rfl) ?_
      exact ⟨hf.put (by decide) _, hb, P, Q', g, glo, ghi, ra, rcap, lo, hi, ra2, rcap2, lo2, hi2, fun h => by have h' := Or.resolve_left h (by decide); have g0 := f0 h'; exact ((eval_put_ne (by decide)).trans g0),
        fun h => by have h' := Or.resolve_left h (by decide); have g0 := f1 h'; exact ((eval_put_ne (by decide)).trans g0),
        fun h => by have h' := Or.resolve_left h (by decide); have g0 := f2 h'; exact ((eval_put_ne (by decide)).trans g0),
        fun h => by have h' := Or.resolve_left h (by decide); obtain ⟨g0, g1, g2, g3⟩ := f3 h'; exact ⟨((eval_put_ne (by decide)).trans g0), g1, g2, g3⟩,
        fun h => by have h' := Or.resolve_left h (by decide); obtain ⟨g0, g1, g2, g3, g4, g5, g6⟩ := f4 h'; exact ⟨((eval_put_ne (by decide)).trans g0), g1, g2, g3, g4, g5, (Or.inr g6)⟩,
        fun h => by have h' := Or.resolve_left h (by decide); obtain ⟨g0, g1, g2⟩ := f5 h'; exact ⟨((eval_put_ne (by decide)).trans g0), (Or.inr g1), (Or.inr g2)⟩,
        fun _ => ⟨eval_put_self (by rw [hz]; decide), Or.inr e5_1, Or.inr e5_2⟩,
        fun h => by have h' := Or.resolve_left h (by decide); obtain ⟨g0, g1, g2⟩ := f7 h'; exact ⟨((eval_put_ne (by decide)).trans g0), (Or.inr g1), (Or.inr g2)⟩,
        fun h => by have h' := Or.resolve_left h (by decide); obtain ⟨g0, g1, g2⟩ := f8 h'; exact ⟨((eval_put_ne (by decide)).trans g0), (Or.inr g1), (Or.inr g2)⟩,
        fun h => by have h' := Or.resolve_left h (by decide); obtain ⟨g0, g1, g2, g3⟩ := f9 h'; exact ⟨((eval_put_ne (by decide)).trans g0), g1, g2, g3⟩,
        fun h => by have h' := Or.resolve_left h (by decide); obtain ⟨g0, g1, g2, g3⟩ := f10 h'; exact ⟨((eval_put_ne (by decide)).trans g0), g1, g2, g3⟩,
        fun h => by have h' := Or.resolve_left h (by decide); obtain ⟨g0, g1, g2, g3⟩ := f11 h'; exact ⟨g0, (Or.inr g1), (Or.inr g2), (Or.inr g3)⟩,
        fun h => by have h' := Or.resolve_left h (by decide); obtain ⟨g0, g1, g2, g3⟩ := f12 h'; exact ⟨g0, (Or.inr g1), (Or.inr g2), (Or.inr g3)⟩,
        fun h => by have h' := Or.resolve_left h (by decide); obtain ⟨g0, g1, g2⟩ := f13 h'; exact ⟨((eval_put_ne (by decide)).trans g0), (Or.inr g1), (Or.inr g2)⟩,
        fun h1 h2 => x0 (Or.resolve_left h1 (by decide)) (Or.resolve_left h2 (by decide)),
        fun h1 h2 => x1 (Or.resolve_left h1 (by decide)) (Or.resolve_left h2 (by decide)),
        fun h1 h2 => x2 (Or.resolve_left h1 (by decide)) (Or.resolve_left h2 (by decide)),
        fun h1 h2 => x3 (Or.resolve_left h1 (by decide)) (Or.resolve_left h2 (by decide)),
        fun h1 h2 => x4 (Or.resolve_left h1 (by decide)) (Or.resolve_left h2 (by decide)),
        fun h1 h2 => x5 (Or.resolve_left h1 (by decide)) (Or.resolve_left h2 (by decide)),
        fun h1 h2 => x6 (Or.resolve_left h1 (by decide)) (Or.resolve_left h2 (by decide))⟩
    · have d5 := waits u7_5 hdep
      obtain ⟨e5_0, e5_1, e5_2⟩ := f5 d5
      refine op_extract o7 e5_0 (by rfl) ?_
      exact ⟨hf.put (by decide) _, hb, P, Q', g, glo, ghi, ra, rcap, lo, hi, ra2, rcap2, lo2, hi2, fun h => by have h' := Or.resolve_left h (by decide); have g0 := f0 h'; exact ((eval_put_ne (by decide)).trans g0),
        fun h => by have h' := Or.resolve_left h (by decide); have g0 := f1 h'; exact ((eval_put_ne (by decide)).trans g0),
        fun h => by have h' := Or.resolve_left h (by decide); have g0 := f2 h'; exact ((eval_put_ne (by decide)).trans g0),
        fun h => by have h' := Or.resolve_left h (by decide); obtain ⟨g0, g1, g2, g3⟩ := f3 h'; exact ⟨((eval_put_ne (by decide)).trans g0), g1, g2, g3⟩,
        fun h => by have h' := Or.resolve_left h (by decide); obtain ⟨g0, g1, g2, g3, g4, g5, g6⟩ := f4 h'; exact ⟨((eval_put_ne (by decide)).trans g0), g1, g2, g3, g4, g5, (Or.inr g6)⟩,
        fun h => by have h' := Or.resolve_left h (by decide); obtain ⟨g0, g1, g2⟩ := f5 h'; exact ⟨((eval_put_ne (by decide)).trans g0), (Or.inr g1), (Or.inr g2)⟩,
        fun h => by have h' := Or.resolve_left h (by decide); obtain ⟨g0, g1, g2⟩ := f6 h'; exact ⟨((eval_put_ne (by decide)).trans g0), (Or.inr g1), (Or.inr g2)⟩,
        fun _ => ⟨eval_put_self (by rw [hz]; decide), Or.inr e5_1, Or.inr e5_2⟩,
        fun h => by have h' := Or.resolve_left h (by decide); obtain ⟨g0, g1, g2⟩ := f8 h'; exact ⟨((eval_put_ne (by decide)).trans g0), (Or.inr g1), (Or.inr g2)⟩,
        fun h => by have h' := Or.resolve_left h (by decide); obtain ⟨g0, g1, g2, g3⟩ := f9 h'; exact ⟨((eval_put_ne (by decide)).trans g0), g1, g2, g3⟩,
        fun h => by have h' := Or.resolve_left h (by decide); obtain ⟨g0, g1, g2, g3⟩ := f10 h'; exact ⟨((eval_put_ne (by decide)).trans g0), g1, g2, g3⟩,
        fun h => by have h' := Or.resolve_left h (by decide); obtain ⟨g0, g1, g2, g3⟩ := f11 h'; exact ⟨g0, (Or.inr g1), (Or.inr g2), (Or.inr g3)⟩,
        fun h => by have h' := Or.resolve_left h (by decide); obtain ⟨g0, g1, g2, g3⟩ := f12 h'; exact ⟨g0, (Or.inr g1), (Or.inr g2), (Or.inr g3)⟩,
        fun h => by have h' := Or.resolve_left h (by decide); obtain ⟨g0, g1, g2⟩ := f13 h'; exact ⟨((eval_put_ne (by decide)).trans g0), (Or.inr g1), (Or.inr g2)⟩,
        fun h1 h2 => x0 (Or.resolve_left h1 (by decide)) (Or.resolve_left h2 (by decide)),
        fun h1 h2 => x1 (Or.resolve_left h1 (by decide)) (Or.resolve_left h2 (by decide)),
        fun h1 h2 => x2 (Or.resolve_left h1 (by decide)) (Or.resolve_left h2 (by decide)),
        fun h1 h2 => x3 (Or.resolve_left h1 (by decide)) (Or.resolve_left h2 (by decide)),
        fun h1 h2 => x4 (Or.resolve_left h1 (by decide)) (Or.resolve_left h2 (by decide)),
        fun h1 h2 => x5 (Or.resolve_left h1 (by decide)) (Or.resolve_left h2 (by decide)),
        fun h1 h2 => x6 (Or.resolve_left h1 (by decide)) (Or.resolve_left h2 (by decide))⟩
    · have d5 := waits u8_5 hdep
      obtain ⟨e5_0, e5_1, e5_2⟩ := f5 d5
      refine op_extract o8 e5_0 (by rfl) ?_
      exact ⟨hf.put (by decide) _, hb, P, Q', g, glo, ghi, ra, rcap, lo, hi, ra2, rcap2, lo2, hi2, fun h => by have h' := Or.resolve_left h (by decide); have g0 := f0 h'; exact ((eval_put_ne (by decide)).trans g0),
        fun h => by have h' := Or.resolve_left h (by decide); have g0 := f1 h'; exact ((eval_put_ne (by decide)).trans g0),
        fun h => by have h' := Or.resolve_left h (by decide); have g0 := f2 h'; exact ((eval_put_ne (by decide)).trans g0),
        fun h => by have h' := Or.resolve_left h (by decide); obtain ⟨g0, g1, g2, g3⟩ := f3 h'; exact ⟨((eval_put_ne (by decide)).trans g0), g1, g2, g3⟩,
        fun h => by have h' := Or.resolve_left h (by decide); obtain ⟨g0, g1, g2, g3, g4, g5, g6⟩ := f4 h'; exact ⟨((eval_put_ne (by decide)).trans g0), g1, g2, g3, g4, g5, (Or.inr g6)⟩,
        fun h => by have h' := Or.resolve_left h (by decide); obtain ⟨g0, g1, g2⟩ := f5 h'; exact ⟨((eval_put_ne (by decide)).trans g0), (Or.inr g1), (Or.inr g2)⟩,
        fun h => by have h' := Or.resolve_left h (by decide); obtain ⟨g0, g1, g2⟩ := f6 h'; exact ⟨((eval_put_ne (by decide)).trans g0), (Or.inr g1), (Or.inr g2)⟩,
        fun h => by have h' := Or.resolve_left h (by decide); obtain ⟨g0, g1, g2⟩ := f7 h'; exact ⟨((eval_put_ne (by decide)).trans g0), (Or.inr g1), (Or.inr g2)⟩,
        fun _ => ⟨eval_put_self (by rw [hz]; decide), Or.inr e5_1, Or.inr e5_2⟩,
        fun h => by have h' := Or.resolve_left h (by decide); obtain ⟨g0, g1, g2, g3⟩ := f9 h'; exact ⟨((eval_put_ne (by decide)).trans g0), g1, g2, g3⟩,
        fun h => by have h' := Or.resolve_left h (by decide); obtain ⟨g0, g1, g2, g3⟩ := f10 h'; exact ⟨((eval_put_ne (by decide)).trans g0), g1, g2, g3⟩,
        fun h => by have h' := Or.resolve_left h (by decide); obtain ⟨g0, g1, g2, g3⟩ := f11 h'; exact ⟨g0, (Or.inr g1), (Or.inr g2), (Or.inr g3)⟩,
        fun h => by have h' := Or.resolve_left h (by decide); obtain ⟨g0, g1, g2, g3⟩ := f12 h'; exact ⟨g0, (Or.inr g1), (Or.inr g2), (Or.inr g3)⟩,
        fun h => by have h' := Or.resolve_left h (by decide); obtain ⟨g0, g1, g2⟩ := f13 h'; exact ⟨((eval_put_ne (by decide)).trans g0), (Or.inr g1), (Or.inr g2)⟩,
        fun h1 h2 => x0 (Or.resolve_left h1 (by decide)) (Or.resolve_left h2 (by decide)),
        fun h1 h2 => x1 (Or.resolve_left h1 (by decide)) (Or.resolve_left h2 (by decide)),
        fun h1 h2 => x2 (Or.resolve_left h1 (by decide)) (Or.resolve_left h2 (by decide)),
        fun h1 h2 => x3 (Or.resolve_left h1 (by decide)) (Or.resolve_left h2 (by decide)),
        fun h1 h2 => x4 (Or.resolve_left h1 (by decide)) (Or.resolve_left h2 (by decide)),
        fun h1 h2 => x5 (Or.resolve_left h1 (by decide)) (Or.resolve_left h2 (by decide)),
        fun h1 h2 => x6 (Or.resolve_left h1 (by decide)) (Or.resolve_left h2 (by decide))⟩
    · obtain ⟨cs, hal, hcz⟩ := allocIC w
      refine op_alloc o9 hal ?_
      have hbw : Below w.heap.size w (w.alloc (.cells cs 28)) := (Below.refl _ _).alloc (Nat.le_refl _) _
      have hb' := below_step hb hbw (Nat.le_refl _)
      exact ⟨hf.put (by decide) _, hb', w.heap.size, Q', g, glo, ghi, ra, rcap, lo, hi, ra2, rcap2, lo2, hi2, fun h => by have h' := Or.resolve_left h (by decide); have g0 := f0 h'; exact ((eval_put_ne (by decide)).trans g0),
        fun h => by have h' := Or.resolve_left h (by decide); have g0 := f1 h'; exact ((eval_put_ne (by decide)).trans g0),
        fun h => by have h' := Or.resolve_left h (by decide); have g0 := f2 h'; exact ((eval_put_ne (by decide)).trans g0),
        fun h => by have h' := Or.resolve_left h (by decide); obtain ⟨g0, g1, g2, g3⟩ := f3 h'; exact ⟨((eval_put_ne (by decide)).trans g0), (g1.below hbw), g2, (Nat.le_trans g3 hbw.size)⟩,
        fun h => by have h' := Or.resolve_left h (by decide); obtain ⟨g0, g1, g2, g3, g4, g5, g6⟩ := f4 h'; exact ⟨((eval_put_ne (by decide)).trans g0), (g1.below hbw), (g2.below hbw), g3, (Nat.le_trans g4 hbw.size), (Nat.le_trans g5 hbw.size), (Or.inr g6)⟩,
        fun h => by have h' := Or.resolve_left h (by decide); obtain ⟨g0, g1, g2⟩ := f5 h'; exact ⟨((eval_put_ne (by decide)).trans g0), (Or.inr g1), (Or.inr g2)⟩,
        fun h => by have h' := Or.resolve_left h (by decide); obtain ⟨g0, g1, g2⟩ := f6 h'; exact ⟨((eval_put_ne (by decide)).trans g0), (Or.inr g1), (Or.inr g2)⟩,
        fun h => by have h' := Or.resolve_left h (by decide); obtain ⟨g0, g1, g2⟩ := f7 h'; exact ⟨((eval_put_ne (by decide)).trans g0), (Or.inr g1), (Or.inr g2)⟩,
        fun h => by have h' := Or.resolve_left h (by decide); obtain ⟨g0, g1, g2⟩ := f8 h'; exact ⟨((eval_put_ne (by decide)).trans g0), (Or.inr g1), (Or.inr g2)⟩,
        fun _ => ⟨eval_put_self (by rw [hz]; decide), hbs, ⟨cs, BoxN.new _ _ _, hcz⟩, Nat.le_of_eq (World.size_alloc _ _).symm⟩,
        fun h => by have h' := Or.resolve_left h (by decide); obtain ⟨g0, g1, g2, g3⟩ := f10 h'; exact ⟨((eval_put_ne (by decide)).trans g0), g1, (by obtain ⟨cs, hcs, hcz⟩ := g2; exact ⟨cs, hcs.below hbw, hcz⟩), (Nat.le_trans g3 hbw.size)⟩,
        fun h => by have h' := Or.resolve_left h (by decide); obtain ⟨g0, g1, g2, g3⟩ := f11 h'; exact absurd g3 hnd,
        fun h => by have h' := Or.resolve_left h (by decide); obtain ⟨g0, g1, g2, g3⟩ := f12 h'; exact ⟨(g0.below hbw), (Or.inr g1), (Or.inr g2), (Or.inr g3)⟩,
        fun h => by have h' := Or.resolve_left h (by decide); obtain ⟨g0, g1, g2⟩ := f13 h'; exact ⟨((eval_put_ne (by decide)).trans g0), (Or.inr g1), (Or.inr g2)⟩,
        fun h1 h2 => by have h' := Or.resolve_left h1 (by decide); obtain ⟨g0, g1, g2, g3⟩ := f3 h'; omega,
        fun h1 h2 => x1 (Or.resolve_left h1 (by decide)) (Or.resolve_left h2 (by decide)),
        fun h1 h2 => by have h' := Or.resolve_left h1 (by decide); obtain ⟨g0, g1, g2, g3, g4, g5, g6⟩ := f4 h'; omega,
        fun h1 h2 => by have h' := Or.resolve_left h1 (by decide); obtain ⟨g0, g1, g2, g3, g4, g5, g6⟩ := f4 h'; omega,
        fun h1 h2 => x4 (Or.resolve_left h1 (by decide)) (Or.resolve_left h2 (by decide)),
        fun h1 h2 => x5 (Or.resolve_left h1 (by decide)) (Or.resolve_left h2 (by decide)),
        fun h1 h2 => by have h' := Or.resolve_left h2 (by decide); obtain ⟨g0, g1, g2, g3⟩ := f10 h'; omega⟩
    · obtain ⟨cs, hal, hcz⟩ := allocIR w
      refine op_alloc o10 hal ?_
      have hbw : Below w.heap.size w (w.alloc (.cells cs 30)) := (Below.refl _ _).alloc (Nat.le_refl _) _
      have hb' := below_step hb hbw (Nat.le_refl _)
      exact ⟨hf.put (by decide) _, hb', P, w.heap.size, g, glo, ghi, ra, rcap, lo, hi, ra2, rcap2, lo2, hi2, fun h => by have h' := Or.resolve_left h (by decide); have g0 := f0 h'; exact ((eval_put_ne (by decide)).trans g0),
        fun h => by have h' := Or.resolve_left h (by decide); have g0 := f1 h'; exact ((eval_put_ne (by decide)).trans g0),
        fun h => by have h' := Or.resolve_left h (by decide); have g0 := f2 h'; exact ((eval_put_ne (by decide)).trans g0),
        fun h => by have h' := Or.resolve_left h (by decide); obtain ⟨g0, g1, g2, g3⟩ := f3 h'; exact ⟨((eval_put_ne (by decide)).trans g0), (g1.below hbw), g2, (Nat.le_trans g3 hbw.size)⟩,
        fun h => by have h' := Or.resolve_left h (by decide); obtain ⟨g0, g1, g2, g3, g4, g5, g6⟩ := f4 h'; exact ⟨((eval_put_ne (by decide)).trans g0), (g1.below hbw), (g2.below hbw), g3, (Nat.le_trans g4 hbw.size), (Nat.le_trans g5 hbw.size), (Or.inr g6)⟩,
        fun h => by have h' := Or.resolve_left h (by decide); obtain ⟨g0, g1, g2⟩ := f5 h'; exact ⟨((eval_put_ne (by decide)).trans g0), (Or.inr g1), (Or.inr g2)⟩,
        fun h => by have h' := Or.resolve_left h (by decide); obtain ⟨g0, g1, g2⟩ := f6 h'; exact ⟨((eval_put_ne (by decide)).trans g0), (Or.inr g1), (Or.inr g2)⟩,
        fun h => by have h' := Or.resolve_left h (by decide); obtain ⟨g0, g1, g2⟩ := f7 h'; exact ⟨((eval_put_ne (by decide)).trans g0), (Or.inr g1), (Or.inr g2)⟩,
        fun h => by have h' := Or.resolve_left h (by decide); obtain ⟨g0, g1, g2⟩ := f8 h'; exact ⟨((eval_put_ne (by decide)).trans g0), (Or.inr g1), (Or.inr g2)⟩,
        fun h => by have h' := Or.resolve_left h (by decide); obtain ⟨g0, g1, g2, g3⟩ := f9 h'; exact ⟨((eval_put_ne (by decide)).trans g0), g1, (by obtain ⟨cs, hcs, hcz⟩ := g2; exact ⟨cs, hcs.below hbw, hcz⟩), (Nat.le_trans g3 hbw.size)⟩,
        fun _ => ⟨eval_put_self (by rw [hz]; decide), hbs, ⟨cs, BoxN.new _ _ _, hcz⟩, Nat.le_of_eq (World.size_alloc _ _).symm⟩,
        fun h => by have h' := Or.resolve_left h (by decide); obtain ⟨g0, g1, g2, g3⟩ := f11 h'; exact ⟨(g0.below hbw), (Or.inr g1), (Or.inr g2), (Or.inr g3)⟩,
        fun h => by have h' := Or.resolve_left h (by decide); obtain ⟨g0, g1, g2, g3⟩ := f12 h'; exact absurd g3 hnd,
        fun h => by have h' := Or.resolve_left h (by decide); obtain ⟨g0, g1, g2⟩ := f13 h'; exact ⟨((eval_put_ne (by decide)).trans g0), (Or.inr g1), (Or.inr g2)⟩,
        fun h1 h2 => x0 (Or.resolve_left h1 (by decide)) (Or.resolve_left h2 (by decide)),
        fun h1 h2 => by have h' := Or.resolve_left h1 (by decide); obtain ⟨g0, g1, g2, g3⟩ := f3 h'; omega,
        fun h1 h2 => x2 (Or.resolve_left h1 (by decide)) (Or.resolve_left h2 (by decide)),
        fun h1 h2 => x3 (Or.resolve_left h1 (by decide)) (Or.resolve_left h2 (by decide)),
        fun h1 h2 => by have h' := Or.resolve_left h1 (by decide); obtain ⟨g0, g1, g2, g3, g4, g5, g6⟩ := f4 h'; omega,
        fun h1 h2 => by have h' := Or.resolve_left h1 (by decide); obtain ⟨g0, g1, g2, g3, g4, g5, g6⟩ := f4 h'; omega,
        fun h1 h2 => by have h' := Or.resolve_left h1 (by decide); obtain ⟨g0, g1, g2, g3⟩ := f9 h'; omega⟩
    · have d9 := waits u11_9 hdep
      obtain ⟨e9_0, e9_1, e9_2, e9_3⟩ := f9 d9
      have d6 := waits u11_6 hdep
      obtain ⟨e6_0, e6_1, e6_2⟩ := f6 d6
      obtain ⟨cs, hcs, hcz⟩ := e9_2
      obtain ⟨w', hst, hnew, hsp⟩ := storeIC hcs hcz
      refine op_store o11 e9_0 e6_0 hst ?_
      have hb' := hb.trans (hsp.below e9_1 hbs)
      exact ⟨hf, hb', P, Q', g, glo, ghi, ra, rcap, lo, hi, ra2, rcap2, lo2, hi2, fun h => by have h' := Or.resolve_left h (by decide); have g0 := f0 h'; exact g0,
        fun h => by have h' := Or.resolve_left h (by decide); have g0 := f1 h'; exact g0,
        fun h => by have h' := Or.resolve_left h (by decide); have g0 := f2 h'; exact g0,
        fun h => by have h' := Or.resolve_left h (by decide); have := x0 h' d9; obtain ⟨g0, g1, g2, g3⟩ := f3 h'; exact ⟨g0, (g1.span hsp (by omega)), g2, (Nat.le_trans g3 hsp.size)⟩,
        fun h => by have h' := Or.resolve_left h (by decide); have := x2 h' d9; have := x3 h' d9; obtain ⟨g0, g1, g2, g3, g4, g5, g6⟩ := f4 h'; exact ⟨g0, (g1.span hsp (by omega)), (g2.span hsp (by omega)), g3, (Nat.le_trans g4 hsp.size), (Nat.le_trans g5 hsp.size), (Or.inr g6)⟩,
        fun h => by have h' := Or.resolve_left h (by decide); obtain ⟨g0, g1, g2⟩ := f5 h'; exact ⟨g0, (Or.inr g1), (Or.inr g2)⟩,
        fun h => by have h' := Or.resolve_left h (by decide); obtain ⟨g0, g1, g2⟩ := f6 h'; exact ⟨g0, (Or.inr g1), (Or.inr g2)⟩,
        fun h => by have h' := Or.resolve_left h (by decide); obtain ⟨g0, g1, g2⟩ := f7 h'; exact ⟨g0, (Or.inr g1), (Or.inr g2)⟩,
        fun h => by have h' := Or.resolve_left h (by decide); obtain ⟨g0, g1, g2⟩ := f8 h'; exact ⟨g0, (Or.inr g1), (Or.inr g2)⟩,
        fun h => by have h' := Or.resolve_left h (by decide); obtain ⟨g0, g1, g2, g3⟩ := f9 h'; exact ⟨g0, g1, ⟨_, hnew, rfl⟩, (Nat.le_trans g3 hsp.size)⟩,
        fun h => by have h' := Or.resolve_left h (by decide); have := x6 d9 h'; obtain ⟨g0, g1, g2, g3⟩ := f10 h'; exact ⟨g0, g1, (by obtain ⟨cs, hcs, hcz⟩ := g2; exact ⟨cs, hcs.span hsp (by omega), hcz⟩), (Nat.le_trans g3 hsp.size)⟩,
        fun _ => ⟨hnew, Or.inr e6_1, Or.inr e6_2, Or.inr d9⟩,
        fun h => by have h' := Or.resolve_left h (by decide); obtain ⟨g0, g1, g2, g3⟩ := f12 h'; have := x6 d9 g3; exact ⟨(g0.span hsp (by omega)), (Or.inr g1), (Or.inr g2), (Or.inr g3)⟩,
        fun h => by have h' := Or.resolve_left h (by decide); obtain ⟨g0, g1, g2⟩ := f13 h'; exact ⟨g0, (Or.inr g1), (Or.inr g2)⟩,
        fun h1 h2 => x0 (Or.resolve_left h1 (by decide)) (Or.resolve_left h2 (by decide)),
        fun h1 h2 => x1 (Or.resolve_left h1 (by decide)) (Or.resolve_left h2 (by decide)),
        fun h1 h2 => x2 (Or.resolve_left h1 (by decide)) (Or.resolve_left h2 (by decide)),
        fun h1 h2 => x3 (Or.resolve_left h1 (by decide)) (Or.resolve_left h2 (by decide)),
        fun h1 h2 => x4 (Or.resolve_left h1 (by decide)) (Or.resolve_left h2 (by decide)),
        fun h1 h2 => x5 (Or.resolve_left h1 (by decide)) (Or.resolve_left h2 (by decide)),
        fun h1 h2 => x6 (Or.resolve_left h1 (by decide)) (Or.resolve_left h2 (by decide))⟩
    · have d10 := waits u12_10 hdep
      obtain ⟨e10_0, e10_1, e10_2, e10_3⟩ := f10 d10
      have d7 := waits u12_7 hdep
      obtain ⟨e7_0, e7_1, e7_2⟩ := f7 d7
      obtain ⟨cs, hcs, hcz⟩ := e10_2
      obtain ⟨w', hst, hnew, hsp⟩ := storeIR hcs hcz
      refine op_store o12 e10_0 e7_0 hst ?_
      have hb' := hb.trans (hsp.below e10_1 hbs)
      exact ⟨hf, hb', P, Q', g, glo, ghi, ra, rcap, lo, hi, ra2, rcap2, lo2, hi2, fun h => by have h' := Or.resolve_left h (by decide); have g0 := f0 h'; exact g0,
        fun h => by have h' := Or.resolve_left h (by decide); have g0 := f1 h'; exact g0,
        fun h => by have h' := Or.resolve_left h (by decide); have g0 := f2 h'; exact g0,
        fun h => by have h' := Or.resolve_left h (by decide); have := x1 h' d10; obtain ⟨g0, g1, g2, g3⟩ := f3 h'; exact ⟨g0, (g1.span hsp (by omega)), g2, (Nat.le_trans g3 hsp.size)⟩,
        fun h => by have h' := Or.resolve_left h (by decide); have := x4 h' d10; have := x5 h' d10; obtain ⟨g0, g1, g2, g3, g4, g5, g6⟩ := f4 h'; exact ⟨g0, (g1.span hsp (by omega)), (g2.span hsp (by omega)), g3, (Nat.le_trans g4 hsp.size), (Nat.le_trans g5 hsp.size), (Or.inr g6)⟩,
        fun h => by have h' := Or.resolve_left h (by decide); obtain ⟨g0, g1, g2⟩ := f5 h'; exact ⟨g0, (Or.inr g1), (Or.inr g2)⟩,
        fun h => by have h' := Or.resolve_left h (by decide); obtain ⟨g0, g1, g2⟩ := f6 h'; exact ⟨g0, (Or.inr g1), (Or.inr g2)⟩,
        fun h => by have h' := Or.resolve_left h (by decide); obtain ⟨g0, g1, g2⟩ := f7 h'; exact ⟨g0, (Or.inr g1), (Or.inr g2)⟩,
        fun h => by have h' := Or.resolve_left h (by decide); obtain ⟨g0, g1, g2⟩ := f8 h'; exact ⟨g0, (Or.inr g1), (Or.inr g2)⟩,
        fun h => by have h' := Or.resolve_left h (by decide); have := x6 h' d10; obtain ⟨g0, g1, g2, g3⟩ := f9 h'; exact ⟨g0, g1, (by obtain ⟨cs, hcs, hcz⟩ := g2; exact ⟨cs, hcs.span hsp (by omega), hcz⟩), (Nat.le_trans g3 hsp.size)⟩,
        fun h => by have h' := Or.resolve_left h (by decide); obtain ⟨g0, g1, g2, g3⟩ := f10 h'; exact ⟨g0, g1, ⟨_, hnew, rfl⟩, (Nat.le_trans g3 hsp.size)⟩,
        fun h => by have h' := Or.resolve_left h (by decide); obtain ⟨g0, g1, g2, g3⟩ := f11 h'; have := x6 g3 d10; exact ⟨(g0.span hsp (by omega)), (Or.inr g1), (Or.inr g2), (Or.inr g3)⟩,
        fun _ => ⟨hnew, Or.inr e7_1, Or.inr e7_2, Or.inr d10⟩,
        fun h => by have h' := Or.resolve_left h (by decide); obtain ⟨g0, g1, g2⟩ := f13 h'; exact ⟨g0, (Or.inr g1), (Or.inr g2)⟩,
        fun h1 h2 => x0 (Or.resolve_left h1 (by decide)) (Or.resolve_left h2 (by decide)),
        fun h1 h2 => x1 (Or.resolve_left h1 (by decide)) (Or.resolve_left h2 (by decide)),
        fun h1 h2 => x2 (Or.resolve_left h1 (by decide)) (Or.resolve_left h2 (by decide)),
        fun h1 h2 => x3 (Or.resolve_left h1 (by decide)) (Or.resolve_left h2 (by decide)),
        fun h1 h2 => x4 (Or.resolve_left h1 (by decide)) (Or.resolve_left h2 (by decide)),
        fun h1 h2 => x5 (Or.resolve_left h1 (by decide)) (Or.resolve_left h2 (by decide)),
        fun h1 h2 => x6 (Or.resolve_left h1 (by decide)) (Or.resolve_left h2 (by decide))⟩
    · have d8 := waits u13_8 hdep
      obtain ⟨e8_0, e8_1, e8_2⟩ := f8 d8
      refine op_assign o13 e8_0 ?_
      exact ⟨hf.put (by decide) _, hb, P, Q', g, glo, ghi, ra, rcap, lo, hi, ra2, rcap2, lo2, hi2, fun h => by have h' := Or.resolve_left h (by decide); have g0 := f0 h'; exact ((eval_put_ne (by decide)).trans g0),
        fun h => by have h' := Or.resolve_left h (by decide); have g0 := f1 h'; exact ((eval_put_ne (by decide)).trans g0),
        fun h => by have h' := Or.resolve_left h (by decide); have g0 := f2 h'; exact ((eval_put_ne (by decide)).trans g0),
        fun h => by have h' := Or.resolve_left h (by decide); obtain ⟨g0, g1, g2, g3⟩ := f3 h'; exact ⟨((eval_put_ne (by decide)).trans g0), g1, g2, g3⟩,
        fun h => by have h' := Or.resolve_left h (by decide); obtain ⟨g0, g1, g2, g3, g4, g5, g6⟩ := f4 h'; exact ⟨((eval_put_ne (by decide)).trans g0), g1, g2, g3, g4, g5, (Or.inr g6)⟩,
        fun h => by have h' := Or.resolve_left h (by decide); obtain ⟨g0, g1, g2⟩ := f5 h'; exact ⟨((eval_put_ne (by decide)).trans g0), (Or.inr g1), (Or.inr g2)⟩,
        fun h => by have h' := Or.resolve_left h (by decide); obtain ⟨g0, g1, g2⟩ := f6 h'; exact ⟨((eval_put_ne (by decide)).trans g0), (Or.inr g1), (Or.inr g2)⟩,
        fun h => by have h' := Or.resolve_left h (by decide); obtain ⟨g0, g1, g2⟩ := f7 h'; exact ⟨((eval_put_ne (by decide)).trans g0), (Or.inr g1), (Or.inr g2)⟩,
        fun h => by have h' := Or.resolve_left h (by decide); obtain ⟨g0, g1, g2⟩ := f8 h'; exact ⟨((eval_put_ne (by decide)).trans g0), (Or.inr g1), (Or.inr g2)⟩,
        fun h => by have h' := Or.resolve_left h (by decide); obtain ⟨g0, g1, g2, g3⟩ := f9 h'; exact ⟨((eval_put_ne (by decide)).trans g0), g1, g2, g3⟩,
        fun h => by have h' := Or.resolve_left h (by decide); obtain ⟨g0, g1, g2, g3⟩ := f10 h'; exact ⟨((eval_put_ne (by decide)).trans g0), g1, g2, g3⟩,
        fun h => by have h' := Or.resolve_left h (by decide); obtain ⟨g0, g1, g2, g3⟩ := f11 h'; exact ⟨g0, (Or.inr g1), (Or.inr g2), (Or.inr g3)⟩,
        fun h => by have h' := Or.resolve_left h (by decide); obtain ⟨g0, g1, g2, g3⟩ := f12 h'; exact ⟨g0, (Or.inr g1), (Or.inr g2), (Or.inr g3)⟩,
        fun _ => ⟨eval_put_self (by rw [hz]; decide), Or.inr e8_1, Or.inr e8_2⟩,
        fun h1 h2 => x0 (Or.resolve_left h1 (by decide)) (Or.resolve_left h2 (by decide)),
        fun h1 h2 => x1 (Or.resolve_left h1 (by decide)) (Or.resolve_left h2 (by decide)),
        fun h1 h2 => x2 (Or.resolve_left h1 (by decide)) (Or.resolve_left h2 (by decide)),
        fun h1 h2 => x3 (Or.resolve_left h1 (by decide)) (Or.resolve_left h2 (by decide)),
        fun h1 h2 => x4 (Or.resolve_left h1 (by decide)) (Or.resolve_left h2 (by decide)),
        fun h1 h2 => x5 (Or.resolve_left h1 (by decide)) (Or.resolve_left h2 (by decide)),
        fun h1 h2 => x6 (Or.resolve_left h1 (by decide)) (Or.resolve_left h2 (by decide))⟩
  · intro D a w hD hI
    obtain ⟨hf, hb, P, Q', g, glo, ghi, ra, rcap, lo, hi, ra2, rcap2, lo2, hi2, f0, f1, f2, f3, f4, f5, f6, f7, f8, f9, f10, f11, f12, f13, x0, x1, x2, x3, x4, x5, x6⟩ := hI
    rw [hn] at hD
    have e0_0 := f0 (hD 0 (by decide))
    have e1_0 := f1 (hD 1 (by decide))
    have e2_0 := f2 (hD 2 (by decide))
    obtain ⟨e3_0, e3_1, e3_2, e3_3⟩ := f3 (hD 3 (by decide))
    obtain ⟨e4_0, e4_1, e4_2, e4_3, e4_4, e4_5, e4_6⟩ := f4 (hD 4 (by decide))
    obtain ⟨e5_0, e5_1, e5_2⟩ := f5 (hD 5 (by decide))
    obtain ⟨e6_0, e6_1, e6_2⟩ := f6 (hD 6 (by decide))
    obtain ⟨e7_0, e7_1, e7_2⟩ := f7 (hD 7 (by decide))
    obtain ⟨e8_0, e8_1, e8_2⟩ := f8 (hD 8 (by decide))
    obtain ⟨e9_0, e9_1, e9_2, e9_3⟩ := f9 (hD 9 (by decide))
    obtain ⟨e10_0, e10_1, e10_2, e10_3⟩ := f10 (hD 10 (by decide))
    obtain ⟨e11_0, e11_1, e11_2, e11_3⟩ := f11 (hD 11 (by decide))
    obtain ⟨e12_0, e12_1, e12_2, e12_3⟩ := f12 (hD 12 (by decide))
    obtain ⟨e13_0, e13_1, e13_2⟩ := f13 (hD 13 (by decide))
    have y0 := x0 (hD 3 (by decide)) (hD 9 (by decide))
    have y1 := x1 (hD 3 (by decide)) (hD 10 (by decide))
    have y2 := x2 (hD 4 (by decide)) (hD 9 (by decide))
    have y3 := x3 (hD 4 (by decide)) (hD 9 (by decide))
    have y4 := x4 (hD 4 (by decide)) (hD 10 (by decide))
    have y5 := x5 (hD 4 (by decide)) (hD 10 (by decide))
    have y6 := x6 (hD 9 (by decide)) (hD 10 (by decide))
    have hw := hb.size
    obtain ⟨n1, n2, n3, n4, n5⟩ := e4_3
    exact hQ a w hf ⟨P, Q', ra, rcap, ra2, rcap2, lo, hi, lo2, hi2, e9_0, e10_0, e13_0, e11_0, e12_0, e4_1, e4_2, ⟨by omega, by omega, by omega, by omega, by omega, by omega, by omega, n3, n4, n5, by omega, by omega, by omega, by omega⟩, hb⟩
  · exact ⟨FrameIs.refl _ _, (Below.refl _ _).drew, 0, 0, 0, 0, 0, none, 0, 0, 0, none, 0, 0, 0, fun h => False.elim h, fun h => False.elim h, fun h => False.elim h, fun h => False.elim h, fun h => False.elim h, fun h => False.elim h, fun h => False.elim h, fun h => False.elim h, fun h => False.elim h, fun h => False.elim h, fun h => False.elim h, fun h => False.elim h, fun h => False.elim h, fun h => False.elim h, fun h => False.elim h, fun h => False.elim h, fun h => False.elim h, fun h => False.elim h, fun h => False.elim h, fun h => False.elim h, fun h => False.elim h⟩

theorem stepReg7_ops (ops : Array Oper) (h : regionOps 7 (Tryz.f7.body.getD .skip) = some ops) : backward ops = true ∧ ops.size = 13 ∧ IsOp ops 0 (some 36) (.load 50 (.tmp 2)) ∧ IsOp ops 1 (some 37) (.call ⟨.value (.func 23), #[.tmp 36], #[50]⟩) ∧ IsOp ops 2 (some 38) (.load 30 (.tmp 9)) ∧ IsOp ops 3 (some 39) (.call ⟨.value (.func 10), #[.tmp 37, .tmp 38], #[28, 30]⟩) ∧ IsOp ops 4 (some 35) (.move (.tmp 39)) ∧ IsOp ops 5 (some 40) (.extract (.tmp 35) 0) ∧ IsOp ops 6 (some 41) (.extract (.tmp 35) 1) ∧ IsOp ops 7 (some 42) (.extract (.tmp 35) 2) ∧ IsOp ops 8 (some 10) (.alloc 28) ∧ IsOp ops 9 (some 11) (.alloc 30) ∧ IsOp ops 10 none (.store 28 (.tmp 10) (.tmp 40)) ∧ IsOp ops 11 none (.store 30 (.tmp 11) (.tmp 41)) ∧ IsOp ops 12 (some 12) (.assign (.tmp 42)) ∧ Waits ops 1 0 ∧ Waits ops 3 1 ∧ Waits ops 3 2 ∧ Waits ops 4 3 ∧ Waits ops 5 4 ∧ Waits ops 6 4 ∧ Waits ops 7 4 ∧ Waits ops 10 8 ∧ Waits ops 10 5 ∧ Waits ops 11 9 ∧ Waits ops 11 6 ∧ Waits ops 12 7 := by
  obtain rfl : ops = (regionOps 7 (Tryz.f7.body.getD .skip)).getD #[] := by rw [h]; rfl
  exact ⟨by kernel_rfl, by kernel_rfl, by unfold IsOp; kernel_rfl, by unfold IsOp; kernel_rfl, by unfold IsOp; kernel_rfl, by unfold IsOp; kernel_rfl, by unfold IsOp; kernel_rfl, by unfold IsOp; kernel_rfl, by unfold IsOp; kernel_rfl, by unfold IsOp; kernel_rfl, by unfold IsOp; kernel_rfl, by unfold IsOp; kernel_rfl, by unfold IsOp; kernel_rfl, by unfold IsOp; kernel_rfl, by unfold IsOp; kernel_rfl, by unfold Waits; kernel_rfl, by unfold Waits; kernel_rfl, by unfold Waits; kernel_rfl, by unfold Waits; kernel_rfl, by unfold Waits; kernel_rfl, by unfold Waits; kernel_rfl, by unfold Waits; kernel_rfl, by unfold Waits; kernel_rfl, by unfold Waits; kernel_rfl, by unfold Waits; kernel_rfl, by unfold Waits; kernel_rfl, by unfold Waits; kernel_rfl⟩

abbrev stepReg7_I (c : CpuN) (r : CpuN × BusN) (L : List Nat) (xa : Option Addr) (xcap : Nat) (V : World) (a0 : Act) (D : Nat → Prop) (a : Act) (w : World) : Prop :=
  FrameIs a0 [10, 11, 12, 35, 36, 37, 38, 39, 40, 41, 42] a ∧ Below V.heap.size V w ∧ ∃ (P : Nat) (Q' : Nat) (ra : Option Addr) (rcap : Nat) (lo : Nat) (hi : Nat) (ra2 : Option Addr) (rcap2 : Nat) (lo2 : Nat) (hi2 : Nat), (D 0 → a.eval (.tmp 36) = cpuV c) ∧ (D 1 → a.eval (.tmp 37) = cpuV c) ∧ (D 2 → a.eval (.tmp 38) = ramV (.slice xa L.length xcap)) ∧ (D 3 → a.eval (.tmp 39) = .tuple #[cpuV r.1, ramV (.slice ra r.2.mem.length rcap), .slice ra2 r.2.log.length rcap2] ∧ SegB w lo hi (.slice ra r.2.mem.length rcap) (r.2.mem) ∧ SegC w lo2 hi2 (.slice ra2 r.2.log.length rcap2) (r.2.log) ∧ (V.heap.size ≤ lo ∧ V.heap.size ≤ lo2 ∧ lo ≤ hi ∧ lo2 ≤ hi2 ∧ (hi ≤ lo2 ∨ hi2 ≤ lo)) ∧ hi ≤ w.heap.size ∧ hi2 ≤ w.heap.size) ∧ (D 4 → a.eval (.tmp 35) = .tuple #[cpuV r.1, ramV (.slice ra r.2.mem.length rcap), .slice ra2 r.2.log.length rcap2] ∧ D 3) ∧ (D 5 → a.eval (.tmp 40) = cpuV r.1 ∧ D 3) ∧ (D 6 → a.eval (.tmp 41) = ramV (.slice ra r.2.mem.length rcap) ∧ D 3) ∧ (D 7 → a.eval (.tmp 42) = .slice ra2 r.2.log.length rcap2 ∧ D 3) ∧ (D 8 → a.eval (.tmp 10) = .pointer (some ⟨P, 0, none⟩) ∧ (V.heap.size ≤ P) ∧ (∃ cs : Array Value, BoxN w P 28 cs ∧ cs.size = 11) ∧ P + 1 ≤ w.heap.size) ∧ (D 9 → a.eval (.tmp 11) = .pointer (some ⟨Q', 0, none⟩) ∧ (V.heap.size ≤ Q') ∧ (∃ cs : Array Value, BoxN w Q' 30 cs ∧ cs.size = 1) ∧ Q' + 1 ≤ w.heap.size) ∧ (D 10 → BoxN w P 28 (cpuCells r.1) ∧ D 3 ∧ D 8) ∧ (D 11 → BoxN w Q' 30 #[.slice ra r.2.mem.length rcap] ∧ D 3 ∧ D 9) ∧ (D 12 → a.eval (.tmp 12) = .slice ra2 r.2.log.length rcap2 ∧ D 3) ∧ (D 3 → D 8 → (hi ≤ P ∨ P + 1 ≤ lo)) ∧ (D 3 → D 8 → (hi2 ≤ P ∨ P + 1 ≤ lo2)) ∧ (D 3 → D 9 → (hi ≤ Q' ∨ Q' + 1 ≤ lo)) ∧ (D 3 → D 9 → (hi2 ≤ Q' ∨ Q' + 1 ≤ lo2)) ∧ (D 8 → D 9 → (P + 1 ≤ Q' ∨ Q' + 1 ≤ P))

set_option maxRecDepth 100000 in
set_option maxHeartbeats 4000000 in
theorem stepReg7 (c : CpuN) (r : CpuN × BusN) (L : List Nat) (xa : Option Addr) (xcap : Nat) (V : World) (C R : Nat) (hC : BoxN V C 50 (cpuCells c)) (hR : BoxN V R 30 #[.slice xa L.length xcap]) (hrow : RowB V xa L) (HS : ∀ (W : World), RowB W xa L → Calls Tryz.prog 10 #[cpuV c, ramV (.slice xa L.length xcap)] W (Stepped W r)) (a0 : Act) (h2 : a0.eval (.tmp 2) = .pointer (some ⟨C, 0, none⟩)) (h3 : a0.eval (.tmp 9) = .pointer (some ⟨R, 0, none⟩)) (hsz : a0.tmps.size = 144) (Q : Exit → Act → World → Prop)
    (hQ : ∀ a w, FrameIs a0 [10, 11, 12, 35, 36, 37, 38, 39, 40, 41, 42] a → Took3 V r (a.eval (.tmp 10)) (a.eval (.tmp 11)) (a.eval (.tmp 12)) w → Q .normal a w)
    (ops : Array Oper) (hops : regionOps 7 (Tryz.f7.body.getD .skip) = some ops) (id : Nat) : (Code.region id ops true).wp Tryz.prog Q a0 V := by
  obtain ⟨hbk, hn, o0, o1, o2, o3, o4, o5, o6, o7, o8, o9, o10, o11, o12, u1_0, u3_1, u3_2, u4_3, u5_4, u6_4, u7_4, u10_8, u10_5, u11_9, u11_6, u12_7⟩ := stepReg7_ops ops hops
  clear hops
  refine wp_region_facts (by kernel_rfl) hbk (stepReg7_I c r L xa xcap V a0) ?_ ?_ id a0 V ?_
  · intro i hin D a w hnd hdep hI
    obtain ⟨hf, hb, P, Q', ra, rcap, lo, hi, ra2, rcap2, lo2, hi2, f0, f1, f2, f3, f4, f5, f6, f7, f8, f9, f10, f11, f12, x0, x1, x2, x3, x4⟩ := hI
    rw [hn] at hin
    have hz : a.tmps.size = 144 := hf.size.trans hsz
    have hbs := hb.size
    obtain (rfl | rfl | rfl | rfl | rfl | rfl | rfl | rfl | rfl | rfl | rfl | rfl | rfl) : i = 0 ∨ i = 1 ∨ i = 2 ∨ i = 3 ∨ i = 4 ∨ i = 5 ∨ i = 6 ∨ i = 7 ∨ i = 8 ∨ i = 9 ∨ i = 10 ∨ i = 11 ∨ i = 12 := by omega
    · refine op_load o0 ((hf.eval (by decide)).trans h2) (loadLC (hC.below hb)) ?_
      exact ⟨hf.put (by decide) _, hb, P, Q', ra, rcap, lo, hi, ra2, rcap2, lo2, hi2, fun _ => eval_put_self (by rw [hz]; decide),
        fun h => by have h' := Or.resolve_left h (by decide); have g0 := f1 h'; exact ((eval_put_ne (by decide)).trans g0),
        fun h => by have h' := Or.resolve_left h (by decide); have g0 := f2 h'; exact ((eval_put_ne (by decide)).trans g0),
        fun h => by have h' := Or.resolve_left h (by decide); obtain ⟨g0, g1, g2, g3, g4, g5⟩ := f3 h'; exact ⟨((eval_put_ne (by decide)).trans g0), g1, g2, g3, g4, g5⟩,
        fun h => by have h' := Or.resolve_left h (by decide); obtain ⟨g0, g1⟩ := f4 h'; exact ⟨((eval_put_ne (by decide)).trans g0), (Or.inr g1)⟩,
        fun h => by have h' := Or.resolve_left h (by decide); obtain ⟨g0, g1⟩ := f5 h'; exact ⟨((eval_put_ne (by decide)).trans g0), (Or.inr g1)⟩,
        fun h => by have h' := Or.resolve_left h (by decide); obtain ⟨g0, g1⟩ := f6 h'; exact ⟨((eval_put_ne (by decide)).trans g0), (Or.inr g1)⟩,
        fun h => by have h' := Or.resolve_left h (by decide); obtain ⟨g0, g1⟩ := f7 h'; exact ⟨((eval_put_ne (by decide)).trans g0), (Or.inr g1)⟩,
        fun h => by have h' := Or.resolve_left h (by decide); obtain ⟨g0, g1, g2, g3⟩ := f8 h'; exact ⟨((eval_put_ne (by decide)).trans g0), g1, g2, g3⟩,
        fun h => by have h' := Or.resolve_left h (by decide); obtain ⟨g0, g1, g2, g3⟩ := f9 h'; exact ⟨((eval_put_ne (by decide)).trans g0), g1, g2, g3⟩,
        fun h => by have h' := Or.resolve_left h (by decide); obtain ⟨g0, g1, g2⟩ := f10 h'; exact ⟨g0, (Or.inr g1), (Or.inr g2)⟩,
        fun h => by have h' := Or.resolve_left h (by decide); obtain ⟨g0, g1, g2⟩ := f11 h'; exact ⟨g0, (Or.inr g1), (Or.inr g2)⟩,
        fun h => by have h' := Or.resolve_left h (by decide); obtain ⟨g0, g1⟩ := f12 h'; exact ⟨((eval_put_ne (by decide)).trans g0), (Or.inr g1)⟩,
        fun h1 h2 => x0 (Or.resolve_left h1 (by decide)) (Or.resolve_left h2 (by decide)),
        fun h1 h2 => x1 (Or.resolve_left h1 (by decide)) (Or.resolve_left h2 (by decide)),
        fun h1 h2 => x2 (Or.resolve_left h1 (by decide)) (Or.resolve_left h2 (by decide)),
        fun h1 h2 => x3 (Or.resolve_left h1 (by decide)) (Or.resolve_left h2 (by decide)),
        fun h1 h2 => x4 (Or.resolve_left h1 (by decide)) (Or.resolve_left h2 (by decide))⟩
    · have d0 := waits u1_0 hdep
      have e0_0 := f0 d0
      refine op_call o1 (by simp only [List.map_toArray, List.map_cons, List.map_nil, e0_0]) rfl ((toCpu_any c _).mono ?_)
      rintro e w' ⟨rfl, hbw⟩
      have hbz := hbw.size
      have hb' := below_step hb hbw (Nat.le_refl _)
      refine ⟨_, rfl, ?_⟩
      exact ⟨hf.put (by decide) _, hb', P, Q', ra, rcap, lo, hi, ra2, rcap2, lo2, hi2, fun h => by have h' := Or.resolve_left h (by decide); have g0 := f0 h'; exact ((eval_put_ne (by decide)).trans g0),
        fun _ => eval_put_self (by rw [hz]; decide),
        fun h => by have h' := Or.resolve_left h (by decide); have g0 := f2 h'; exact ((eval_put_ne (by decide)).trans g0),
        fun h => by have h' := Or.resolve_left h (by decide); obtain ⟨g0, g1, g2, g3, g4, g5⟩ := f3 h'; exact ⟨((eval_put_ne (by decide)).trans g0), (g1.below hbw), (g2.below hbw), g3, (Nat.le_trans g4 hbw.size), (Nat.le_trans g5 hbw.size)⟩,
        fun h => by have h' := Or.resolve_left h (by decide); obtain ⟨g0, g1⟩ := f4 h'; exact ⟨((eval_put_ne (by decide)).trans g0), (Or.inr g1)⟩,
        fun h => by have h' := Or.resolve_left h (by decide); obtain ⟨g0, g1⟩ := f5 h'; exact ⟨((eval_put_ne (by decide)).trans g0), (Or.inr g1)⟩,
        fun h => by have h' := Or.resolve_left h (by decide); obtain ⟨g0, g1⟩ := f6 h'; exact ⟨((eval_put_ne (by decide)).trans g0), (Or.inr g1)⟩,
        fun h => by have h' := Or.resolve_left h (by decide); obtain ⟨g0, g1⟩ := f7 h'; exact ⟨((eval_put_ne (by decide)).trans g0), (Or.inr g1)⟩,
        fun h => by have h' := Or.resolve_left h (by decide); obtain ⟨g0, g1, g2, g3⟩ := f8 h'; exact ⟨((eval_put_ne (by decide)).trans g0), g1, (by obtain ⟨cs, hcs, hcz⟩ := g2; exact ⟨cs, hcs.below hbw, hcz⟩), (Nat.le_trans g3 hbw.size)⟩,
        fun h => by have h' := Or.resolve_left h (by decide); obtain ⟨g0, g1, g2, g3⟩ := f9 h'; exact ⟨((eval_put_ne (by decide)).trans g0), g1, (by obtain ⟨cs, hcs, hcz⟩ := g2; exact ⟨cs, hcs.below hbw, hcz⟩), (Nat.le_trans g3 hbw.size)⟩,
        fun h => by have h' := Or.resolve_left h (by decide); obtain ⟨g0, g1, g2⟩ := f10 h'; exact ⟨(g0.below hbw), (Or.inr g1), (Or.inr g2)⟩,
        fun h => by have h' := Or.resolve_left h (by decide); obtain ⟨g0, g1, g2⟩ := f11 h'; exact ⟨(g0.below hbw), (Or.inr g1), (Or.inr g2)⟩,
        fun h => by have h' := Or.resolve_left h (by decide); obtain ⟨g0, g1⟩ := f12 h'; exact ⟨((eval_put_ne (by decide)).trans g0), (Or.inr g1)⟩,
        fun h1 h2 => x0 (Or.resolve_left h1 (by decide)) (Or.resolve_left h2 (by decide)),
        fun h1 h2 => x1 (Or.resolve_left h1 (by decide)) (Or.resolve_left h2 (by decide)),
        fun h1 h2 => x2 (Or.resolve_left h1 (by decide)) (Or.resolve_left h2 (by decide)),
        fun h1 h2 => x3 (Or.resolve_left h1 (by decide)) (Or.resolve_left h2 (by decide)),
        fun h1 h2 => x4 (Or.resolve_left h1 (by decide)) (Or.resolve_left h2 (by decide))⟩
    · refine op_load o2 ((hf.eval (by decide)).trans h3) (loadIR (hR.below hb)) ?_
      exact ⟨hf.put (by decide) _, hb, P, Q', ra, rcap, lo, hi, ra2, rcap2, lo2, hi2, fun h => by have h' := Or.resolve_left h (by decide); have g0 := f0 h'; exact ((eval_put_ne (by decide)).trans g0),
        fun h => by have h' := Or.resolve_left h (by decide); have g0 := f1 h'; exact ((eval_put_ne (by decide)).trans g0),
        fun _ => eval_put_self (by rw [hz]; decide),
        fun h => by have h' := Or.resolve_left h (by decide); obtain ⟨g0, g1, g2, g3, g4, g5⟩ := f3 h'; exact ⟨((eval_put_ne (by decide)).trans g0), g1, g2, g3, g4, g5⟩,
        fun h => by have h' := Or.resolve_left h (by decide); obtain ⟨g0, g1⟩ := f4 h'; exact ⟨((eval_put_ne (by decide)).trans g0), (Or.inr g1)⟩,
        fun h => by have h' := Or.resolve_left h (by decide); obtain ⟨g0, g1⟩ := f5 h'; exact ⟨((eval_put_ne (by decide)).trans g0), (Or.inr g1)⟩,
        fun h => by have h' := Or.resolve_left h (by decide); obtain ⟨g0, g1⟩ := f6 h'; exact ⟨((eval_put_ne (by decide)).trans g0), (Or.inr g1)⟩,
        fun h => by have h' := Or.resolve_left h (by decide); obtain ⟨g0, g1⟩ := f7 h'; exact ⟨((eval_put_ne (by decide)).trans g0), (Or.inr g1)⟩,
        fun h => by have h' := Or.resolve_left h (by decide); obtain ⟨g0, g1, g2, g3⟩ := f8 h'; exact ⟨((eval_put_ne (by decide)).trans g0), g1, g2, g3⟩,
        fun h => by have h' := Or.resolve_left h (by decide); obtain ⟨g0, g1, g2, g3⟩ := f9 h'; exact ⟨((eval_put_ne (by decide)).trans g0), g1, g2, g3⟩,
        fun h => by have h' := Or.resolve_left h (by decide); obtain ⟨g0, g1, g2⟩ := f10 h'; exact ⟨g0, (Or.inr g1), (Or.inr g2)⟩,
        fun h => by have h' := Or.resolve_left h (by decide); obtain ⟨g0, g1, g2⟩ := f11 h'; exact ⟨g0, (Or.inr g1), (Or.inr g2)⟩,
        fun h => by have h' := Or.resolve_left h (by decide); obtain ⟨g0, g1⟩ := f12 h'; exact ⟨((eval_put_ne (by decide)).trans g0), (Or.inr g1)⟩,
        fun h1 h2 => x0 (Or.resolve_left h1 (by decide)) (Or.resolve_left h2 (by decide)),
        fun h1 h2 => x1 (Or.resolve_left h1 (by decide)) (Or.resolve_left h2 (by decide)),
        fun h1 h2 => x2 (Or.resolve_left h1 (by decide)) (Or.resolve_left h2 (by decide)),
        fun h1 h2 => x3 (Or.resolve_left h1 (by decide)) (Or.resolve_left h2 (by decide)),
        fun h1 h2 => x4 (Or.resolve_left h1 (by decide)) (Or.resolve_left h2 (by decide))⟩
    · have d1 := waits u3_1 hdep
      have e1_0 := f1 d1
      have d2 := waits u3_2 hdep
      have e2_0 := f2 d2
      refine op_call o3 (by simp only [List.map_toArray, List.map_cons, List.map_nil, e1_0, e2_0]) rfl ((HS w (RowB.below hrow hb)).mono ?_)
      rintro e w' hst
      obtain ⟨ya, ycap, ya2, ycap2, ylo, yhi, ylo2, yhi2, rfl, sm, sc, ⟨q1, q2, q3, q4, q5, q6, q7⟩, hbw⟩ := hst.three
      have hbz := hbw.size
      have hb' := below_step hb hbw (Nat.le_refl _)
      refine ⟨_, rfl, ?_⟩
      exact ⟨hf.put (by decide) _, hb', P, Q', ya, ycap, ylo, yhi, ya2, ycap2, ylo2, yhi2, fun h => by have h' := Or.resolve_left h (by decide); have g0 := f0 h'; exact ((eval_put_ne (by decide)).trans g0),
        fun h => by have h' := Or.resolve_left h (by decide); have g0 := f1 h'; exact ((eval_put_ne (by decide)).trans g0),
        fun h => by have h' := Or.resolve_left h (by decide); have g0 := f2 h'; exact ((eval_put_ne (by decide)).trans g0),
        fun _ => ⟨eval_put_self (by rw [hz]; decide), sm, sc, ⟨by omega, by omega, q5, q6, q7⟩, q2, q4⟩,
        fun h => by have h' := Or.resolve_left h (by decide); obtain ⟨g0, g1⟩ := f4 h'; exact absurd g1 hnd,
        fun h => by have h' := Or.resolve_left h (by decide); obtain ⟨g0, g1⟩ := f5 h'; exact absurd g1 hnd,
        fun h => by have h' := Or.resolve_left h (by decide); obtain ⟨g0, g1⟩ := f6 h'; exact absurd g1 hnd,
        fun h => by have h' := Or.resolve_left h (by decide); obtain ⟨g0, g1⟩ := f7 h'; exact absurd g1 hnd,
        fun h => by have h' := Or.resolve_left h (by decide); obtain ⟨g0, g1, g2, g3⟩ := f8 h'; exact ⟨((eval_put_ne (by decide)).trans g0), g1, (by obtain ⟨cs, hcs, hcz⟩ := g2; exact ⟨cs, hcs.below hbw, hcz⟩), (Nat.le_trans g3 hbw.size)⟩,
        fun h => by have h' := Or.resolve_left h (by decide); obtain ⟨g0, g1, g2, g3⟩ := f9 h'; exact ⟨((eval_put_ne (by decide)).trans g0), g1, (by obtain ⟨cs, hcs, hcz⟩ := g2; exact ⟨cs, hcs.below hbw, hcz⟩), (Nat.le_trans g3 hbw.size)⟩,
        fun h => by have h' := Or.resolve_left h (by decide); obtain ⟨g0, g1, g2⟩ := f10 h'; exact absurd g1 hnd,
        fun h => by have h' := Or.resolve_left h (by decide); obtain ⟨g0, g1, g2⟩ := f11 h'; exact absurd g1 hnd,
        fun h => by have h' := Or.resolve_left h (by decide); obtain ⟨g0, g1⟩ := f12 h'; exact absurd g1 hnd,
        fun h1 h2 => by have h' := Or.resolve_left h2 (by decide); obtain ⟨g0, g1, g2, g3⟩ := f8 h'; omega,
        fun h1 h2 => by have h' := Or.resolve_left h2 (by decide); obtain ⟨g0, g1, g2, g3⟩ := f8 h'; omega,
        fun h1 h2 => by have h' := Or.resolve_left h2 (by decide); obtain ⟨g0, g1, g2, g3⟩ := f9 h'; omega,
        fun h1 h2 => by have h' := Or.resolve_left h2 (by decide); obtain ⟨g0, g1, g2, g3⟩ := f9 h'; omega,
        fun h1 h2 => x4 (Or.resolve_left h1 (by decide)) (Or.resolve_left h2 (by decide))⟩
    · have d3 := waits u4_3 hdep
      obtain ⟨e3_0, e3_1, e3_2, e3_3, e3_4, e3_5⟩ := f3 d3
      refine op_move o4 e3_0 ?_
      exact ⟨hf.put (by decide) _, hb, P, Q', ra, rcap, lo, hi, ra2, rcap2, lo2, hi2, fun h => by have h' := Or.resolve_left h (by decide); have g0 := f0 h'; exact ((eval_put_ne (by decide)).trans g0),
        fun h => by have h' := Or.resolve_left h (by decide); have g0 := f1 h'; exact ((eval_put_ne (by decide)).trans g0),
        fun h => by have h' := Or.resolve_left h (by decide); have g0 := f2 h'; exact ((eval_put_ne (by decide)).trans g0),
        fun h => by have h' := Or.resolve_left h (by decide); obtain ⟨g0, g1, g2, g3, g4, g5⟩ := f3 h'; exact ⟨((eval_put_ne (by decide)).trans g0), g1, g2, g3, g4, g5⟩,
        fun _ => ⟨eval_put_self (by rw [hz]; decide), Or.inr d3⟩,
        fun h => by have h' := Or.resolve_left h (by decide); obtain ⟨g0, g1⟩ := f5 h'; exact ⟨((eval_put_ne (by decide)).trans g0), (Or.inr g1)⟩,
        fun h => by have h' := Or.resolve_left h (by decide); obtain ⟨g0, g1⟩ := f6 h'; exact ⟨((eval_put_ne (by decide)).trans g0), (Or.inr g1)⟩,
        fun h => by have h' := Or.resolve_left h (by decide); obtain ⟨g0, g1⟩ := f7 h'; exact ⟨((eval_put_ne (by decide)).trans g0), (Or.inr g1)⟩,
        fun h => by have h' := Or.resolve_left h (by decide); obtain ⟨g0, g1, g2, g3⟩ := f8 h'; exact ⟨((eval_put_ne (by decide)).trans g0), g1, g2, g3⟩,
        fun h => by have h' := Or.resolve_left h (by decide); obtain ⟨g0, g1, g2, g3⟩ := f9 h'; exact ⟨((eval_put_ne (by decide)).trans g0), g1, g2, g3⟩,
        fun h => by have h' := Or.resolve_left h (by decide); obtain ⟨g0, g1, g2⟩ := f10 h'; exact ⟨g0, (Or.inr g1), (Or.inr g2)⟩,
        fun h => by have h' := Or.resolve_left h (by decide); obtain ⟨g0, g1, g2⟩ := f11 h'; exact ⟨g0, (Or.inr g1), (Or.inr g2)⟩,
        fun h => by have h' := Or.resolve_left h (by decide); obtain ⟨g0, g1⟩ := f12 h'; exact ⟨((eval_put_ne (by decide)).trans g0), (Or.inr g1)⟩,
        fun h1 h2 => x0 (Or.resolve_left h1 (by decide)) (Or.resolve_left h2 (by decide)),
        fun h1 h2 => x1 (Or.resolve_left h1 (by decide)) (Or.resolve_left h2 (by decide)),
        fun h1 h2 => x2 (Or.resolve_left h1 (by decide)) (Or.resolve_left h2 (by decide)),
        fun h1 h2 => x3 (Or.resolve_left h1 (by decide)) (Or.resolve_left h2 (by decide)),
        fun h1 h2 => x4 (Or.resolve_left h1 (by decide)) (Or.resolve_left h2 (by decide))⟩
    · have d4 := waits u5_4 hdep
      obtain ⟨e4_0, e4_1⟩ := f4 d4
      refine op_extract o5 e4_0 (by rfl) ?_
      exact ⟨hf.put (by decide) _, hb, P, Q', ra, rcap, lo, hi, ra2, rcap2, lo2, hi2, fun h => by have h' := Or.resolve_left h (by decide); have g0 := f0 h'; exact ((eval_put_ne (by decide)).trans g0),
        fun h => by have h' := Or.resolve_left h (by decide); have g0 := f1 h'; exact ((eval_put_ne (by decide)).trans g0),
        fun h => by have h' := Or.resolve_left h (by decide); have g0 := f2 h'; exact ((eval_put_ne (by decide)).trans g0),
        fun h => by have h' := Or.resolve_left h (by decide); obtain ⟨g0, g1, g2, g3, g4, g5⟩ := f3 h'; exact ⟨((eval_put_ne (by decide)).trans g0), g1, g2, g3, g4, g5⟩,
        fun h => by have h' := Or.resolve_left h (by decide); obtain ⟨g0, g1⟩ := f4 h'; exact ⟨((eval_put_ne (by decide)).trans g0), (Or.inr g1)⟩,
        fun _ => ⟨eval_put_self (by rw [hz]; decide), Or.inr e4_1⟩,
        fun h => by have h' := Or.resolve_left h (by decide); obtain ⟨g0, g1⟩ := f6 h'; exact ⟨((eval_put_ne (by decide)).trans g0), (Or.inr g1)⟩,
        fun h => by have h' := Or.resolve_left h (by decide); obtain ⟨g0, g1⟩ := f7 h'; exact ⟨((eval_put_ne (by decide)).trans g0), (Or.inr g1)⟩,
        fun h => by have h' := Or.resolve_left h (by decide); obtain ⟨g0, g1, g2, g3⟩ := f8 h'; exact ⟨((eval_put_ne (by decide)).trans g0), g1, g2, g3⟩,
        fun h => by have h' := Or.resolve_left h (by decide); obtain ⟨g0, g1, g2, g3⟩ := f9 h'; exact ⟨((eval_put_ne (by decide)).trans g0), g1, g2, g3⟩,
        fun h => by have h' := Or.resolve_left h (by decide); obtain ⟨g0, g1, g2⟩ := f10 h'; exact ⟨g0, (Or.inr g1), (Or.inr g2)⟩,
        fun h => by have h' := Or.resolve_left h (by decide); obtain ⟨g0, g1, g2⟩ := f11 h'; exact ⟨g0, (Or.inr g1), (Or.inr g2)⟩,
        fun h => by have h' := Or.resolve_left h (by decide); obtain ⟨g0, g1⟩ := f12 h'; exact ⟨((eval_put_ne (by decide)).trans g0), (Or.inr g1)⟩,
        fun h1 h2 => x0 (Or.resolve_left h1 (by decide)) (Or.resolve_left h2 (by decide)),
        fun h1 h2 => x1 (Or.resolve_left h1 (by decide)) (Or.resolve_left h2 (by decide)),
        fun h1 h2 => x2 (Or.resolve_left h1 (by decide)) (Or.resolve_left h2 (by decide)),
        fun h1 h2 => x3 (Or.resolve_left h1 (by decide)) (Or.resolve_left h2 (by decide)),
        fun h1 h2 => x4 (Or.resolve_left h1 (by decide)) (Or.resolve_left h2 (by decide))⟩
    · have d4 := waits u6_4 hdep
      obtain ⟨e4_0, e4_1⟩ := f4 d4
      refine op_extract o6 e4_0 (by rfl) ?_
      exact ⟨hf.put (by decide) _, hb, P, Q', ra, rcap, lo, hi, ra2, rcap2, lo2, hi2, fun h => by have h' := Or.resolve_left h (by decide); have g0 := f0 h'; exact ((eval_put_ne (by decide)).trans g0),
        fun h => by have h' := Or.resolve_left h (by decide); have g0 := f1 h'; exact ((eval_put_ne (by decide)).trans g0),
        fun h => by have h' := Or.resolve_left h (by decide); have g0 := f2 h'; exact ((eval_put_ne (by decide)).trans g0),
        fun h => by have h' := Or.resolve_left h (by decide); obtain ⟨g0, g1, g2, g3, g4, g5⟩ := f3 h'; exact ⟨((eval_put_ne (by decide)).trans g0), g1, g2, g3, g4, g5⟩,
        fun h => by have h' := Or.resolve_left h (by decide); obtain ⟨g0, g1⟩ := f4 h'; exact ⟨((eval_put_ne (by decide)).trans g0), (Or.inr g1)⟩,
        fun h => by have h' := Or.resolve_left h (by decide); obtain ⟨g0, g1⟩ := f5 h'; exact ⟨((eval_put_ne (by decide)).trans g0), (Or.inr g1)⟩,
        fun _ => ⟨eval_put_self (by rw [hz]; decide), Or.inr e4_1⟩,
        fun h => by have h' := Or.resolve_left h (by decide); obtain ⟨g0, g1⟩ := f7 h'; exact ⟨((eval_put_ne (by decide)).trans g0), (Or.inr g1)⟩,
        fun h => by have h' := Or.resolve_left h (by decide); obtain ⟨g0, g1, g2, g3⟩ := f8 h'; exact ⟨((eval_put_ne (by decide)).trans g0), g1, g2, g3⟩,
        fun h => by have h' := Or.resolve_left h (by decide); obtain ⟨g0, g1, g2, g3⟩ := f9 h'; exact ⟨((eval_put_ne (by decide)).trans g0), g1, g2, g3⟩,
        fun h => by have h' := Or.resolve_left h (by decide); obtain ⟨g0, g1, g2⟩ := f10 h'; exact ⟨g0, (Or.inr g1), (Or.inr g2)⟩,
        fun h => by have h' := Or.resolve_left h (by decide); obtain ⟨g0, g1, g2⟩ := f11 h'; exact ⟨g0, (Or.inr g1), (Or.inr g2)⟩,
        fun h => by have h' := Or.resolve_left h (by decide); obtain ⟨g0, g1⟩ := f12 h'; exact ⟨((eval_put_ne (by decide)).trans g0), (Or.inr g1)⟩,
        fun h1 h2 => x0 (Or.resolve_left h1 (by decide)) (Or.resolve_left h2 (by decide)),
        fun h1 h2 => x1 (Or.resolve_left h1 (by decide)) (Or.resolve_left h2 (by decide)),
        fun h1 h2 => x2 (Or.resolve_left h1 (by decide)) (Or.resolve_left h2 (by decide)),
        fun h1 h2 => x3 (Or.resolve_left h1 (by decide)) (Or.resolve_left h2 (by decide)),
        fun h1 h2 => x4 (Or.resolve_left h1 (by decide)) (Or.resolve_left h2 (by decide))⟩
    · have d4 := waits u7_4 hdep
      obtain ⟨e4_0, e4_1⟩ := f4 d4
      refine op_extract o7 e4_0 (by rfl) ?_
      exact ⟨hf.put (by decide) _, hb, P, Q', ra, rcap, lo, hi, ra2, rcap2, lo2, hi2, fun h => by have h' := Or.resolve_left h (by decide); have g0 := f0 h'; exact ((eval_put_ne (by decide)).trans g0),
        fun h => by have h' := Or.resolve_left h (by decide); have g0 := f1 h'; exact ((eval_put_ne (by decide)).trans g0),
        fun h => by have h' := Or.resolve_left h (by decide); have g0 := f2 h'; exact ((eval_put_ne (by decide)).trans g0),
        fun h => by have h' := Or.resolve_left h (by decide); obtain ⟨g0, g1, g2, g3, g4, g5⟩ := f3 h'; exact ⟨((eval_put_ne (by decide)).trans g0), g1, g2, g3, g4, g5⟩,
        fun h => by have h' := Or.resolve_left h (by decide); obtain ⟨g0, g1⟩ := f4 h'; exact ⟨((eval_put_ne (by decide)).trans g0), (Or.inr g1)⟩,
        fun h => by have h' := Or.resolve_left h (by decide); obtain ⟨g0, g1⟩ := f5 h'; exact ⟨((eval_put_ne (by decide)).trans g0), (Or.inr g1)⟩,
        fun h => by have h' := Or.resolve_left h (by decide); obtain ⟨g0, g1⟩ := f6 h'; exact ⟨((eval_put_ne (by decide)).trans g0), (Or.inr g1)⟩,
        fun _ => ⟨eval_put_self (by rw [hz]; decide), Or.inr e4_1⟩,
        fun h => by have h' := Or.resolve_left h (by decide); obtain ⟨g0, g1, g2, g3⟩ := f8 h'; exact ⟨((eval_put_ne (by decide)).trans g0), g1, g2, g3⟩,
        fun h => by have h' := Or.resolve_left h (by decide); obtain ⟨g0, g1, g2, g3⟩ := f9 h'; exact ⟨((eval_put_ne (by decide)).trans g0), g1, g2, g3⟩,
        fun h => by have h' := Or.resolve_left h (by decide); obtain ⟨g0, g1, g2⟩ := f10 h'; exact ⟨g0, (Or.inr g1), (Or.inr g2)⟩,
        fun h => by have h' := Or.resolve_left h (by decide); obtain ⟨g0, g1, g2⟩ := f11 h'; exact ⟨g0, (Or.inr g1), (Or.inr g2)⟩,
        fun h => by have h' := Or.resolve_left h (by decide); obtain ⟨g0, g1⟩ := f12 h'; exact ⟨((eval_put_ne (by decide)).trans g0), (Or.inr g1)⟩,
        fun h1 h2 => x0 (Or.resolve_left h1 (by decide)) (Or.resolve_left h2 (by decide)),
        fun h1 h2 => x1 (Or.resolve_left h1 (by decide)) (Or.resolve_left h2 (by decide)),
        fun h1 h2 => x2 (Or.resolve_left h1 (by decide)) (Or.resolve_left h2 (by decide)),
        fun h1 h2 => x3 (Or.resolve_left h1 (by decide)) (Or.resolve_left h2 (by decide)),
        fun h1 h2 => x4 (Or.resolve_left h1 (by decide)) (Or.resolve_left h2 (by decide))⟩
    · obtain ⟨cs, hal, hcz⟩ := allocIC w
      refine op_alloc o8 hal ?_
      have hbw : Below w.heap.size w (w.alloc (.cells cs 28)) := (Below.refl _ _).alloc (Nat.le_refl _) _
      have hb' := below_step hb hbw (Nat.le_refl _)
      exact ⟨hf.put (by decide) _, hb', w.heap.size, Q', ra, rcap, lo, hi, ra2, rcap2, lo2, hi2, fun h => by have h' := Or.resolve_left h (by decide); have g0 := f0 h'; exact ((eval_put_ne (by decide)).trans g0),
        fun h => by have h' := Or.resolve_left h (by decide); have g0 := f1 h'; exact ((eval_put_ne (by decide)).trans g0),
        fun h => by have h' := Or.resolve_left h (by decide); have g0 := f2 h'; exact ((eval_put_ne (by decide)).trans g0),
        fun h => by have h' := Or.resolve_left h (by decide); obtain ⟨g0, g1, g2, g3, g4, g5⟩ := f3 h'; exact ⟨((eval_put_ne (by decide)).trans g0), (g1.below hbw), (g2.below hbw), g3, (Nat.le_trans g4 hbw.size), (Nat.le_trans g5 hbw.size)⟩,
        fun h => by have h' := Or.resolve_left h (by decide); obtain ⟨g0, g1⟩ := f4 h'; exact ⟨((eval_put_ne (by decide)).trans g0), (Or.inr g1)⟩,
        fun h => by have h' := Or.resolve_left h (by decide); obtain ⟨g0, g1⟩ := f5 h'; exact ⟨((eval_put_ne (by decide)).trans g0), (Or.inr g1)⟩,
        fun h => by have h' := Or.resolve_left h (by decide); obtain ⟨g0, g1⟩ := f6 h'; exact ⟨((eval_put_ne (by decide)).trans g0), (Or.inr g1)⟩,
        fun h => by have h' := Or.resolve_left h (by decide); obtain ⟨g0, g1⟩ := f7 h'; exact ⟨((eval_put_ne (by decide)).trans g0), (Or.inr g1)⟩,
        fun _ => ⟨eval_put_self (by rw [hz]; decide), hbs, ⟨cs, BoxN.new _ _ _, hcz⟩, Nat.le_of_eq (World.size_alloc _ _).symm⟩,
        fun h => by have h' := Or.resolve_left h (by decide); obtain ⟨g0, g1, g2, g3⟩ := f9 h'; exact ⟨((eval_put_ne (by decide)).trans g0), g1, (by obtain ⟨cs, hcs, hcz⟩ := g2; exact ⟨cs, hcs.below hbw, hcz⟩), (Nat.le_trans g3 hbw.size)⟩,
        fun h => by have h' := Or.resolve_left h (by decide); obtain ⟨g0, g1, g2⟩ := f10 h'; exact absurd g2 hnd,
        fun h => by have h' := Or.resolve_left h (by decide); obtain ⟨g0, g1, g2⟩ := f11 h'; exact ⟨(g0.below hbw), (Or.inr g1), (Or.inr g2)⟩,
        fun h => by have h' := Or.resolve_left h (by decide); obtain ⟨g0, g1⟩ := f12 h'; exact ⟨((eval_put_ne (by decide)).trans g0), (Or.inr g1)⟩,
        fun h1 h2 => by have h' := Or.resolve_left h1 (by decide); obtain ⟨g0, g1, g2, g3, g4, g5⟩ := f3 h'; omega,
        fun h1 h2 => by have h' := Or.resolve_left h1 (by decide); obtain ⟨g0, g1, g2, g3, g4, g5⟩ := f3 h'; omega,
        fun h1 h2 => x2 (Or.resolve_left h1 (by decide)) (Or.resolve_left h2 (by decide)),
        fun h1 h2 => x3 (Or.resolve_left h1 (by decide)) (Or.resolve_left h2 (by decide)),
        fun h1 h2 => by have h' := Or.resolve_left h2 (by decide); obtain ⟨g0, g1, g2, g3⟩ := f9 h'; omega⟩
    · obtain ⟨cs, hal, hcz⟩ := allocIR w
      refine op_alloc o9 hal ?_
      have hbw : Below w.heap.size w (w.alloc (.cells cs 30)) := (Below.refl _ _).alloc (Nat.le_refl _) _
      have hb' := below_step hb hbw (Nat.le_refl _)
      exact ⟨hf.put (by decide) _, hb', P, w.heap.size, ra, rcap, lo, hi, ra2, rcap2, lo2, hi2, fun h => by have h' := Or.resolve_left h (by decide); have g0 := f0 h'; exact ((eval_put_ne (by decide)).trans g0),
        fun h => by have h' := Or.resolve_left h (by decide); have g0 := f1 h'; exact ((eval_put_ne (by decide)).trans g0),
        fun h => by have h' := Or.resolve_left h (by decide); have g0 := f2 h'; exact ((eval_put_ne (by decide)).trans g0),
        fun h => by have h' := Or.resolve_left h (by decide); obtain ⟨g0, g1, g2, g3, g4, g5⟩ := f3 h'; exact ⟨((eval_put_ne (by decide)).trans g0), (g1.below hbw), (g2.below hbw), g3, (Nat.le_trans g4 hbw.size), (Nat.le_trans g5 hbw.size)⟩,
        fun h => by have h' := Or.resolve_left h (by decide); obtain ⟨g0, g1⟩ := f4 h'; exact ⟨((eval_put_ne (by decide)).trans g0), (Or.inr g1)⟩,
        fun h => by have h' := Or.resolve_left h (by decide); obtain ⟨g0, g1⟩ := f5 h'; exact ⟨((eval_put_ne (by decide)).trans g0), (Or.inr g1)⟩,
        fun h => by have h' := Or.resolve_left h (by decide); obtain ⟨g0, g1⟩ := f6 h'; exact ⟨((eval_put_ne (by decide)).trans g0), (Or.inr g1)⟩,
        fun h => by have h' := Or.resolve_left h (by decide); obtain ⟨g0, g1⟩ := f7 h'; exact ⟨((eval_put_ne (by decide)).trans g0), (Or.inr g1)⟩,
        fun h => by have h' := Or.resolve_left h (by decide); obtain ⟨g0, g1, g2, g3⟩ := f8 h'; exact ⟨((eval_put_ne (by decide)).trans g0), g1, (by obtain ⟨cs, hcs, hcz⟩ := g2; exact ⟨cs, hcs.below hbw, hcz⟩), (Nat.le_trans g3 hbw.size)⟩,
        fun _ => ⟨eval_put_self (by rw [hz]; decide), hbs, ⟨cs, BoxN.new _ _ _, hcz⟩, Nat.le_of_eq (World.size_alloc _ _).symm⟩,
        fun h => by have h' := Or.resolve_left h (by decide); obtain ⟨g0, g1, g2⟩ := f10 h'; exact ⟨(g0.below hbw), (Or.inr g1), (Or.inr g2)⟩,
        fun h => by have h' := Or.resolve_left h (by decide); obtain ⟨g0, g1, g2⟩ := f11 h'; exact absurd g2 hnd,
        fun h => by have h' := Or.resolve_left h (by decide); obtain ⟨g0, g1⟩ := f12 h'; exact ⟨((eval_put_ne (by decide)).trans g0), (Or.inr g1)⟩,
        fun h1 h2 => x0 (Or.resolve_left h1 (by decide)) (Or.resolve_left h2 (by decide)),
        fun h1 h2 => x1 (Or.resolve_left h1 (by decide)) (Or.resolve_left h2 (by decide)),
        fun h1 h2 => by have h' := Or.resolve_left h1 (by decide); obtain ⟨g0, g1, g2, g3, g4, g5⟩ := f3 h'; omega,
        fun h1 h2 => by have h' := Or.resolve_left h1 (by decide); obtain ⟨g0, g1, g2, g3, g4, g5⟩ := f3 h'; omega,
        fun h1 h2 => by have h' := Or.resolve_left h1 (by decide); obtain ⟨g0, g1, g2, g3⟩ := f8 h'; omega⟩
    · have d8 := waits u10_8 hdep
      obtain ⟨e8_0, e8_1, e8_2, e8_3⟩ := f8 d8
      have d5 := waits u10_5 hdep
      obtain ⟨e5_0, e5_1⟩ := f5 d5
      obtain ⟨cs, hcs, hcz⟩ := e8_2
      obtain ⟨w', hst, hnew, hsp⟩ := storeIC hcs hcz
      refine op_store o10 e8_0 e5_0 hst ?_
      have hb' := hb.trans (hsp.below e8_1 hbs)
      exact ⟨hf, hb', P, Q', ra, rcap, lo, hi, ra2, rcap2, lo2, hi2, fun h => by have h' := Or.resolve_left h (by decide); have g0 := f0 h'; exact g0,
        fun h => by have h' := Or.resolve_left h (by decide); have g0 := f1 h'; exact g0,
        fun h => by have h' := Or.resolve_left h (by decide); have g0 := f2 h'; exact g0,
        fun h => by have h' := Or.resolve_left h (by decide); have := x0 h' d8; have := x1 h' d8; obtain ⟨g0, g1, g2, g3, g4, g5⟩ := f3 h'; exact ⟨g0, (g1.span hsp (by omega)), (g2.span hsp (by omega)), g3, (Nat.le_trans g4 hsp.size), (Nat.le_trans g5 hsp.size)⟩,
        fun h => by have h' := Or.resolve_left h (by decide); obtain ⟨g0, g1⟩ := f4 h'; exact ⟨g0, (Or.inr g1)⟩,
        fun h => by have h' := Or.resolve_left h (by decide); obtain ⟨g0, g1⟩ := f5 h'; exact ⟨g0, (Or.inr g1)⟩,
        fun h => by have h' := Or.resolve_left h (by decide); obtain ⟨g0, g1⟩ := f6 h'; exact ⟨g0, (Or.inr g1)⟩,
        fun h => by have h' := Or.resolve_left h (by decide); obtain ⟨g0, g1⟩ := f7 h'; exact ⟨g0, (Or.inr g1)⟩,
        fun h => by have h' := Or.resolve_left h (by decide); obtain ⟨g0, g1, g2, g3⟩ := f8 h'; exact ⟨g0, g1, ⟨_, hnew, rfl⟩, (Nat.le_trans g3 hsp.size)⟩,
        fun h => by have h' := Or.resolve_left h (by decide); have := x4 d8 h'; obtain ⟨g0, g1, g2, g3⟩ := f9 h'; exact ⟨g0, g1, (by obtain ⟨cs, hcs, hcz⟩ := g2; exact ⟨cs, hcs.span hsp (by omega), hcz⟩), (Nat.le_trans g3 hsp.size)⟩,
        fun _ => ⟨hnew, Or.inr e5_1, Or.inr d8⟩,
        fun h => by have h' := Or.resolve_left h (by decide); obtain ⟨g0, g1, g2⟩ := f11 h'; have := x4 d8 g2; exact ⟨(g0.span hsp (by omega)), (Or.inr g1), (Or.inr g2)⟩,
        fun h => by have h' := Or.resolve_left h (by decide); obtain ⟨g0, g1⟩ := f12 h'; exact ⟨g0, (Or.inr g1)⟩,
        fun h1 h2 => x0 (Or.resolve_left h1 (by decide)) (Or.resolve_left h2 (by decide)),
        fun h1 h2 => x1 (Or.resolve_left h1 (by decide)) (Or.resolve_left h2 (by decide)),
        fun h1 h2 => x2 (Or.resolve_left h1 (by decide)) (Or.resolve_left h2 (by decide)),
        fun h1 h2 => x3 (Or.resolve_left h1 (by decide)) (Or.resolve_left h2 (by decide)),
        fun h1 h2 => x4 (Or.resolve_left h1 (by decide)) (Or.resolve_left h2 (by decide))⟩
    · have d9 := waits u11_9 hdep
      obtain ⟨e9_0, e9_1, e9_2, e9_3⟩ := f9 d9
      have d6 := waits u11_6 hdep
      obtain ⟨e6_0, e6_1⟩ := f6 d6
      obtain ⟨cs, hcs, hcz⟩ := e9_2
      obtain ⟨w', hst, hnew, hsp⟩ := storeIR hcs hcz
      refine op_store o11 e9_0 e6_0 hst ?_
      have hb' := hb.trans (hsp.below e9_1 hbs)
      exact ⟨hf, hb', P, Q', ra, rcap, lo, hi, ra2, rcap2, lo2, hi2, fun h => by have h' := Or.resolve_left h (by decide); have g0 := f0 h'; exact g0,
        fun h => by have h' := Or.resolve_left h (by decide); have g0 := f1 h'; exact g0,
        fun h => by have h' := Or.resolve_left h (by decide); have g0 := f2 h'; exact g0,
        fun h => by have h' := Or.resolve_left h (by decide); have := x2 h' d9; have := x3 h' d9; obtain ⟨g0, g1, g2, g3, g4, g5⟩ := f3 h'; exact ⟨g0, (g1.span hsp (by omega)), (g2.span hsp (by omega)), g3, (Nat.le_trans g4 hsp.size), (Nat.le_trans g5 hsp.size)⟩,
        fun h => by have h' := Or.resolve_left h (by decide); obtain ⟨g0, g1⟩ := f4 h'; exact ⟨g0, (Or.inr g1)⟩,
        fun h => by have h' := Or.resolve_left h (by decide); obtain ⟨g0, g1⟩ := f5 h'; exact ⟨g0, (Or.inr g1)⟩,
        fun h => by have h' := Or.resolve_left h (by decide); obtain ⟨g0, g1⟩ := f6 h'; exact ⟨g0, (Or.inr g1)⟩,
        fun h => by have h' := Or.resolve_left h (by decide); obtain ⟨g0, g1⟩ := f7 h'; exact ⟨g0, (Or.inr g1)⟩,
        fun h => by have h' := Or.resolve_left h (by decide); have := x4 h' d9; obtain ⟨g0, g1, g2, g3⟩ := f8 h'; exact ⟨g0, g1, (by obtain ⟨cs, hcs, hcz⟩ := g2; exact ⟨cs, hcs.span hsp (by omega), hcz⟩), (Nat.le_trans g3 hsp.size)⟩,
        fun h => by have h' := Or.resolve_left h (by decide); obtain ⟨g0, g1, g2, g3⟩ := f9 h'; exact ⟨g0, g1, ⟨_, hnew, rfl⟩, (Nat.le_trans g3 hsp.size)⟩,
        fun h => by have h' := Or.resolve_left h (by decide); obtain ⟨g0, g1, g2⟩ := f10 h'; have := x4 g2 d9; exact ⟨(g0.span hsp (by omega)), (Or.inr g1), (Or.inr g2)⟩,
        fun _ => ⟨hnew, Or.inr e6_1, Or.inr d9⟩,
        fun h => by have h' := Or.resolve_left h (by decide); obtain ⟨g0, g1⟩ := f12 h'; exact ⟨g0, (Or.inr g1)⟩,
        fun h1 h2 => x0 (Or.resolve_left h1 (by decide)) (Or.resolve_left h2 (by decide)),
        fun h1 h2 => x1 (Or.resolve_left h1 (by decide)) (Or.resolve_left h2 (by decide)),
        fun h1 h2 => x2 (Or.resolve_left h1 (by decide)) (Or.resolve_left h2 (by decide)),
        fun h1 h2 => x3 (Or.resolve_left h1 (by decide)) (Or.resolve_left h2 (by decide)),
        fun h1 h2 => x4 (Or.resolve_left h1 (by decide)) (Or.resolve_left h2 (by decide))⟩
    · have d7 := waits u12_7 hdep
      obtain ⟨e7_0, e7_1⟩ := f7 d7
      refine op_assign o12 e7_0 ?_
      exact ⟨hf.put (by decide) _, hb, P, Q', ra, rcap, lo, hi, ra2, rcap2, lo2, hi2, fun h => by have h' := Or.resolve_left h (by decide); have g0 := f0 h'; exact ((eval_put_ne (by decide)).trans g0),
        fun h => by have h' := Or.resolve_left h (by decide); have g0 := f1 h'; exact ((eval_put_ne (by decide)).trans g0),
        fun h => by have h' := Or.resolve_left h (by decide); have g0 := f2 h'; exact ((eval_put_ne (by decide)).trans g0),
        fun h => by have h' := Or.resolve_left h (by decide); obtain ⟨g0, g1, g2, g3, g4, g5⟩ := f3 h'; exact ⟨((eval_put_ne (by decide)).trans g0), g1, g2, g3, g4, g5⟩,
        fun h => by have h' := Or.resolve_left h (by decide); obtain ⟨g0, g1⟩ := f4 h'; exact ⟨((eval_put_ne (by decide)).trans g0), (Or.inr g1)⟩,
        fun h => by have h' := Or.resolve_left h (by decide); obtain ⟨g0, g1⟩ := f5 h'; exact ⟨((eval_put_ne (by decide)).trans g0), (Or.inr g1)⟩,
        fun h => by have h' := Or.resolve_left h (by decide); obtain ⟨g0, g1⟩ := f6 h'; exact ⟨((eval_put_ne (by decide)).trans g0), (Or.inr g1)⟩,
        fun h => by have h' := Or.resolve_left h (by decide); obtain ⟨g0, g1⟩ := f7 h'; exact ⟨((eval_put_ne (by decide)).trans g0), (Or.inr g1)⟩,
        fun h => by have h' := Or.resolve_left h (by decide); obtain ⟨g0, g1, g2, g3⟩ := f8 h'; exact ⟨((eval_put_ne (by decide)).trans g0), g1, g2, g3⟩,
        fun h => by have h' := Or.resolve_left h (by decide); obtain ⟨g0, g1, g2, g3⟩ := f9 h'; exact ⟨((eval_put_ne (by decide)).trans g0), g1, g2, g3⟩,
        fun h => by have h' := Or.resolve_left h (by decide); obtain ⟨g0, g1, g2⟩ := f10 h'; exact ⟨g0, (Or.inr g1), (Or.inr g2)⟩,
        fun h => by have h' := Or.resolve_left h (by decide); obtain ⟨g0, g1, g2⟩ := f11 h'; exact ⟨g0, (Or.inr g1), (Or.inr g2)⟩,
        fun _ => ⟨eval_put_self (by rw [hz]; decide), Or.inr e7_1⟩,
        fun h1 h2 => x0 (Or.resolve_left h1 (by decide)) (Or.resolve_left h2 (by decide)),
        fun h1 h2 => x1 (Or.resolve_left h1 (by decide)) (Or.resolve_left h2 (by decide)),
        fun h1 h2 => x2 (Or.resolve_left h1 (by decide)) (Or.resolve_left h2 (by decide)),
        fun h1 h2 => x3 (Or.resolve_left h1 (by decide)) (Or.resolve_left h2 (by decide)),
        fun h1 h2 => x4 (Or.resolve_left h1 (by decide)) (Or.resolve_left h2 (by decide))⟩
  · intro D a w hD hI
    obtain ⟨hf, hb, P, Q', ra, rcap, lo, hi, ra2, rcap2, lo2, hi2, f0, f1, f2, f3, f4, f5, f6, f7, f8, f9, f10, f11, f12, x0, x1, x2, x3, x4⟩ := hI
    rw [hn] at hD
    have e0_0 := f0 (hD 0 (by decide))
    have e1_0 := f1 (hD 1 (by decide))
    have e2_0 := f2 (hD 2 (by decide))
    obtain ⟨e3_0, e3_1, e3_2, e3_3, e3_4, e3_5⟩ := f3 (hD 3 (by decide))
    obtain ⟨e4_0, e4_1⟩ := f4 (hD 4 (by decide))
    obtain ⟨e5_0, e5_1⟩ := f5 (hD 5 (by decide))
    obtain ⟨e6_0, e6_1⟩ := f6 (hD 6 (by decide))
    obtain ⟨e7_0, e7_1⟩ := f7 (hD 7 (by decide))
    obtain ⟨e8_0, e8_1, e8_2, e8_3⟩ := f8 (hD 8 (by decide))
    obtain ⟨e9_0, e9_1, e9_2, e9_3⟩ := f9 (hD 9 (by decide))
    obtain ⟨e10_0, e10_1, e10_2⟩ := f10 (hD 10 (by decide))
    obtain ⟨e11_0, e11_1, e11_2⟩ := f11 (hD 11 (by decide))
    obtain ⟨e12_0, e12_1⟩ := f12 (hD 12 (by decide))
    have y0 := x0 (hD 3 (by decide)) (hD 8 (by decide))
    have y1 := x1 (hD 3 (by decide)) (hD 8 (by decide))
    have y2 := x2 (hD 3 (by decide)) (hD 9 (by decide))
    have y3 := x3 (hD 3 (by decide)) (hD 9 (by decide))
    have y4 := x4 (hD 8 (by decide)) (hD 9 (by decide))
    have hw := hb.size
    obtain ⟨n1, n2, n3, n4, n5⟩ := e3_3
    exact hQ a w hf ⟨P, Q', ra, rcap, ra2, rcap2, lo, hi, lo2, hi2, e8_0, e9_0, e12_0, e10_0, e11_0, e3_1, e3_2, ⟨by omega, by omega, by omega, by omega, by omega, by omega, by omega, n3, n4, n5, by omega, by omega, by omega, by omega⟩, hb⟩
  · exact ⟨FrameIs.refl _ _, (Below.refl _ _).drew, 0, 0, none, 0, 0, 0, none, 0, 0, 0, fun h => False.elim h, fun h => False.elim h, fun h => False.elim h, fun h => False.elim h, fun h => False.elim h, fun h => False.elim h, fun h => False.elim h, fun h => False.elim h, fun h => False.elim h, fun h => False.elim h, fun h => False.elim h, fun h => False.elim h, fun h => False.elim h, fun h => False.elim h, fun h => False.elim h, fun h => False.elim h, fun h => False.elim h, fun h => False.elim h⟩

theorem stepReg28_ops (ops : Array Oper) (h : regionOps 28 (Tryz.f7.body.getD .skip) = some ops) : backward ops = true ∧ ops.size = 14 ∧ IsOp ops 0 (some 107) (.load 50 (.tmp 2)) ∧ IsOp ops 1 (some 108) (.call ⟨.value (.func 23), #[.tmp 107], #[50]⟩) ∧ IsOp ops 2 (some 109) (.load 51 (.tmp 3)) ∧ IsOp ops 3 (some 110) (.call ⟨.value (.func 24), #[.tmp 109], #[51]⟩) ∧ IsOp ops 4 (some 111) (.call ⟨.value (.func 10), #[.tmp 108, .tmp 110], #[28, 30]⟩) ∧ IsOp ops 5 (some 106) (.move (.tmp 111)) ∧ IsOp ops 6 (some 112) (.extract (.tmp 106) 0) ∧ IsOp ops 7 (some 113) (.extract (.tmp 106) 1) ∧ IsOp ops 8 (some 114) (.extract (.tmp 106) 2) ∧ IsOp ops 9 (some 16) (.alloc 28) ∧ IsOp ops 10 (some 17) (.alloc 30) ∧ IsOp ops 11 none (.store 28 (.tmp 16) (.tmp 112)) ∧ IsOp ops 12 none (.store 30 (.tmp 17) (.tmp 113)) ∧ IsOp ops 13 (some 18) (.assign (.tmp 114)) ∧ Waits ops 1 0 ∧ Waits ops 3 2 ∧ Waits ops 4 1 ∧ Waits ops 4 3 ∧ Waits ops 5 4 ∧ Waits ops 6 5 ∧ Waits ops 7 5 ∧ Waits ops 8 5 ∧ Waits ops 11 9 ∧ Waits ops 11 6 ∧ Waits ops 12 10 ∧ Waits ops 12 7 ∧ Waits ops 13 8 := by
  obtain rfl : ops = (regionOps 28 (Tryz.f7.body.getD .skip)).getD #[] := by rw [h]; rfl
  exact ⟨by kernel_rfl, by kernel_rfl, by unfold IsOp; kernel_rfl, by unfold IsOp; kernel_rfl, by unfold IsOp; kernel_rfl, by unfold IsOp; kernel_rfl, by unfold IsOp; kernel_rfl, by unfold IsOp; kernel_rfl, by unfold IsOp; kernel_rfl, by unfold IsOp; kernel_rfl, by unfold IsOp; kernel_rfl, by unfold IsOp; kernel_rfl, by unfold IsOp; kernel_rfl, by unfold IsOp; kernel_rfl, by unfold IsOp; kernel_rfl, by unfold IsOp; kernel_rfl, by unfold Waits; kernel_rfl, by unfold Waits; kernel_rfl, by unfold Waits; kernel_rfl, by unfold Waits; kernel_rfl, by unfold Waits; kernel_rfl, by unfold Waits; kernel_rfl, by unfold Waits; kernel_rfl, by unfold Waits; kernel_rfl, by unfold Waits; kernel_rfl, by unfold Waits; kernel_rfl, by unfold Waits; kernel_rfl, by unfold Waits; kernel_rfl, by unfold Waits; kernel_rfl⟩

abbrev stepReg28_I (c : CpuN) (r : CpuN × BusN) (L : List Nat) (sa : Option Addr) (cap : Nat) (V : World) (a0 : Act) (D : Nat → Prop) (a : Act) (w : World) : Prop :=
  FrameIs a0 [16, 17, 18, 106, 107, 108, 109, 110, 111, 112, 113, 114] a ∧ Below V.heap.size V w ∧ ∃ (P : Nat) (Q' : Nat) (g : Nat) (glo : Nat) (ghi : Nat) (ra : Option Addr) (rcap : Nat) (lo : Nat) (hi : Nat) (ra2 : Option Addr) (rcap2 : Nat) (lo2 : Nat) (hi2 : Nat), (D 0 → a.eval (.tmp 107) = cpuV c) ∧ (D 1 → a.eval (.tmp 108) = cpuV c) ∧ (D 2 → a.eval (.tmp 109) = ramV (.slice sa L.length cap)) ∧ (D 3 → a.eval (.tmp 110) = ramV (.slice (some ⟨g, 0, none⟩) L.length L.length) ∧ SegB w glo ghi (.slice (some ⟨g, 0, none⟩) L.length L.length) (L) ∧ (V.heap.size ≤ glo) ∧ ghi ≤ w.heap.size) ∧ (D 4 → a.eval (.tmp 111) = .tuple #[cpuV r.1, ramV (.slice ra r.2.mem.length rcap), .slice ra2 r.2.log.length rcap2] ∧ SegB w lo hi (.slice ra r.2.mem.length rcap) (r.2.mem) ∧ SegC w lo2 hi2 (.slice ra2 r.2.log.length rcap2) (r.2.log) ∧ (V.heap.size ≤ lo ∧ V.heap.size ≤ lo2 ∧ lo ≤ hi ∧ lo2 ≤ hi2 ∧ (hi ≤ lo2 ∨ hi2 ≤ lo)) ∧ hi ≤ w.heap.size ∧ hi2 ≤ w.heap.size ∧ D 3) ∧ (D 5 → a.eval (.tmp 106) = .tuple #[cpuV r.1, ramV (.slice ra r.2.mem.length rcap), .slice ra2 r.2.log.length rcap2] ∧ D 3 ∧ D 4) ∧ (D 6 → a.eval (.tmp 112) = cpuV r.1 ∧ D 3 ∧ D 4) ∧ (D 7 → a.eval (.tmp 113) = ramV (.slice ra r.2.mem.length rcap) ∧ D 3 ∧ D 4) ∧ (D 8 → a.eval (.tmp 114) = .slice ra2 r.2.log.length rcap2 ∧ D 3 ∧ D 4) ∧ (D 9 → a.eval (.tmp 16) = .pointer (some ⟨P, 0, none⟩) ∧ (V.heap.size ≤ P) ∧ (∃ cs : Array Value, BoxN w P 28 cs ∧ cs.size = 11) ∧ P + 1 ≤ w.heap.size) ∧ (D 10 → a.eval (.tmp 17) = .pointer (some ⟨Q', 0, none⟩) ∧ (V.heap.size ≤ Q') ∧ (∃ cs : Array Value, BoxN w Q' 30 cs ∧ cs.size = 1) ∧ Q' + 1 ≤ w.heap.size) ∧ (D 11 → BoxN w P 28 (cpuCells r.1) ∧ D 3 ∧ D 4 ∧ D 9) ∧ (D 12 → BoxN w Q' 30 #[.slice ra r.2.mem.length rcap] ∧ D 3 ∧ D 4 ∧ D 10) ∧ (D 13 → a.eval (.tmp 18) = .slice ra2 r.2.log.length rcap2 ∧ D 3 ∧ D 4) ∧ (D 3 → D 9 → (ghi ≤ P ∨ P + 1 ≤ glo)) ∧ (D 3 → D 10 → (ghi ≤ Q' ∨ Q' + 1 ≤ glo)) ∧ (D 4 → D 9 → (hi ≤ P ∨ P + 1 ≤ lo)) ∧ (D 4 → D 9 → (hi2 ≤ P ∨ P + 1 ≤ lo2)) ∧ (D 4 → D 10 → (hi ≤ Q' ∨ Q' + 1 ≤ lo)) ∧ (D 4 → D 10 → (hi2 ≤ Q' ∨ Q' + 1 ≤ lo2)) ∧ (D 9 → D 10 → (P + 1 ≤ Q' ∨ Q' + 1 ≤ P))

set_option maxRecDepth 100000 in
set_option maxHeartbeats 4000000 in
theorem stepReg28 (c : CpuN) (r : CpuN × BusN) (L : List Nat) (sa : Option Addr) (cap : Nat) (hl : L.length ≤ 1048576) (V : World) (C R : Nat) (hC : BoxN V C 50 (cpuCells c)) (hR : BoxN V R 51 #[.slice sa L.length cap]) (hrow : RowB V sa L) (HS : ∀ (g : Nat) (W : World), RowB W (some ⟨g, 0, none⟩) L → Calls Tryz.prog 10 #[cpuV c, ramV (.slice (some ⟨g, 0, none⟩) L.length L.length)] W (Stepped W r)) (a0 : Act) (h2 : a0.eval (.tmp 2) = .pointer (some ⟨C, 0, none⟩)) (h3 : a0.eval (.tmp 3) = .pointer (some ⟨R, 0, none⟩)) (hsz : a0.tmps.size = 144) (Q : Exit → Act → World → Prop)
    (hQ : ∀ a w, FrameIs a0 [16, 17, 18, 106, 107, 108, 109, 110, 111, 112, 113, 114] a → Took3 V r (a.eval (.tmp 16)) (a.eval (.tmp 17)) (a.eval (.tmp 18)) w → Q .normal a w)
    (ops : Array Oper) (hops : regionOps 28 (Tryz.f7.body.getD .skip) = some ops) (id : Nat) : (Code.region id ops true).wp Tryz.prog Q a0 V := by
  obtain ⟨hbk, hn, o0, o1, o2, o3, o4, o5, o6, o7, o8, o9, o10, o11, o12, o13, u1_0, u3_2, u4_1, u4_3, u5_4, u6_5, u7_5, u8_5, u11_9, u11_6, u12_10, u12_7, u13_8⟩ := stepReg28_ops ops hops
  clear hops
  refine wp_region_facts (by kernel_rfl) hbk (stepReg28_I c r L sa cap V a0) ?_ ?_ id a0 V ?_
  · intro i hin D a w hnd hdep hI
    obtain ⟨hf, hb, P, Q', g, glo, ghi, ra, rcap, lo, hi, ra2, rcap2, lo2, hi2, f0, f1, f2, f3, f4, f5, f6, f7, f8, f9, f10, f11, f12, f13, x0, x1, x2, x3, x4, x5, x6⟩ := hI
    rw [hn] at hin
    have hz : a.tmps.size = 144 := hf.size.trans hsz
    have hbs := hb.size
    obtain (rfl | rfl | rfl | rfl | rfl | rfl | rfl | rfl | rfl | rfl | rfl | rfl | rfl | rfl) : i = 0 ∨ i = 1 ∨ i = 2 ∨ i = 3 ∨ i = 4 ∨ i = 5 ∨ i = 6 ∨ i = 7 ∨ i = 8 ∨ i = 9 ∨ i = 10 ∨ i = 11 ∨ i = 12 ∨ i = 13 := by omega
    · refine op_load o0 ((hf.eval (by decide)).trans h2) (loadLC (hC.below hb)) ?_
      exact ⟨hf.put (by decide) _, hb, P, Q', g, glo, ghi, ra, rcap, lo, hi, ra2, rcap2, lo2, hi2, fun _ => eval_put_self (by rw [hz]; decide),
        fun h => by have h' := Or.resolve_left h (by decide); have g0 := f1 h'; exact ((eval_put_ne (by decide)).trans g0),
        fun h => by have h' := Or.resolve_left h (by decide); have g0 := f2 h'; exact ((eval_put_ne (by decide)).trans g0),
        fun h => by have h' := Or.resolve_left h (by decide); obtain ⟨g0, g1, g2, g3⟩ := f3 h'; exact ⟨((eval_put_ne (by decide)).trans g0), g1, g2, g3⟩,
        fun h => by have h' := Or.resolve_left h (by decide); obtain ⟨g0, g1, g2, g3, g4, g5, g6⟩ := f4 h'; exact ⟨((eval_put_ne (by decide)).trans g0), g1, g2, g3, g4, g5, (Or.inr g6)⟩,
        fun h => by have h' := Or.resolve_left h (by decide); obtain ⟨g0, g1, g2⟩ := f5 h'; exact ⟨((eval_put_ne (by decide)).trans g0), (Or.inr g1), (Or.inr g2)⟩,
        fun h => by have h' := Or.resolve_left h (by decide); obtain ⟨g0, g1, g2⟩ := f6 h'; exact ⟨((eval_put_ne (by decide)).trans g0), (Or.inr g1), (Or.inr g2)⟩,
        fun h => by have h' := Or.resolve_left h (by decide); obtain ⟨g0, g1, g2⟩ := f7 h'; exact ⟨((eval_put_ne (by decide)).trans g0), (Or.inr g1), (Or.inr g2)⟩,
        fun h => by have h' := Or.resolve_left h (by decide); obtain ⟨g0, g1, g2⟩ := f8 h'; exact ⟨((eval_put_ne (by decide)).trans g0), (Or.inr g1), (Or.inr g2)⟩,
        fun h => by have h' := Or.resolve_left h (by decide); obtain ⟨g0, g1, g2, g3⟩ := f9 h'; exact ⟨((eval_put_ne (by decide)).trans g0), g1, g2, g3⟩,
        fun h => by have h' := Or.resolve_left h (by decide); obtain ⟨g0, g1, g2, g3⟩ := f10 h'; exact ⟨((eval_put_ne (by decide)).trans g0), g1, g2, g3⟩,
        fun h => by have h' := Or.resolve_left h (by decide); obtain ⟨g0, g1, g2, g3⟩ := f11 h'; exact ⟨g0, (Or.inr g1), (Or.inr g2), (Or.inr g3)⟩,
        fun h => by have h' := Or.resolve_left h (by decide); obtain ⟨g0, g1, g2, g3⟩ := f12 h'; exact ⟨g0, (Or.inr g1), (Or.inr g2), (Or.inr g3)⟩,
        fun h => by have h' := Or.resolve_left h (by decide); obtain ⟨g0, g1, g2⟩ := f13 h'; exact ⟨((eval_put_ne (by decide)).trans g0), (Or.inr g1), (Or.inr g2)⟩,
        fun h1 h2 => x0 (Or.resolve_left h1 (by decide)) (Or.resolve_left h2 (by decide)),
        fun h1 h2 => x1 (Or.resolve_left h1 (by decide)) (Or.resolve_left h2 (by decide)),
        fun h1 h2 => x2 (Or.resolve_left h1 (by decide)) (Or.resolve_left h2 (by decide)),
        fun h1 h2 => x3 (Or.resolve_left h1 (by decide)) (Or.resolve_left h2 (by decide)),
        fun h1 h2 => x4 (Or.resolve_left h1 (by decide)) (Or.resolve_left h2 (by decide)),
        fun h1 h2 => x5 (Or.resolve_left h1 (by decide)) (Or.resolve_left h2 (by decide)),
        fun h1 h2 => x6 (Or.resolve_left h1 (by decide)) (Or.resolve_left h2 (by decide))⟩
    · have d0 := waits u1_0 hdep
      have e0_0 := f0 d0
      refine op_call o1 (by simp only [List.map_toArray, List.map_cons, List.map_nil, e0_0]) rfl ((toCpu_any c _).mono ?_)
      rintro e w' ⟨rfl, hbw⟩
      have hbz := hbw.size
      have hb' := below_step hb hbw (Nat.le_refl _)
      refine ⟨_, rfl, ?_⟩
      exact ⟨hf.put (by decide) _, hb', P, Q', g, glo, ghi, ra, rcap, lo, hi, ra2, rcap2, lo2, hi2, fun h => by have h' := Or.resolve_left h (by decide); have g0 := f0 h'; exact ((eval_put_ne (by decide)).trans g0),
        fun _ => eval_put_self (by rw [hz]; decide),
        fun h => by have h' := Or.resolve_left h (by decide); have g0 := f2 h'; exact ((eval_put_ne (by decide)).trans g0),
        fun h => by have h' := Or.resolve_left h (by decide); obtain ⟨g0, g1, g2, g3⟩ := f3 h'; exact ⟨((eval_put_ne (by decide)).trans g0), (g1.below hbw), g2, (Nat.le_trans g3 hbw.size)⟩,
        fun h => by have h' := Or.resolve_left h (by decide); obtain ⟨g0, g1, g2, g3, g4, g5, g6⟩ := f4 h'; exact ⟨((eval_put_ne (by decide)).trans g0), (g1.below hbw), (g2.below hbw), g3, (Nat.le_trans g4 hbw.size), (Nat.le_trans g5 hbw.size), (Or.inr g6)⟩,
        fun h => by have h' := Or.resolve_left h (by decide); obtain ⟨g0, g1, g2⟩ := f5 h'; exact ⟨((eval_put_ne (by decide)).trans g0), (Or.inr g1), (Or.inr g2)⟩,
        fun h => by have h' := Or.resolve_left h (by decide); obtain ⟨g0, g1, g2⟩ := f6 h'; exact ⟨((eval_put_ne (by decide)).trans g0), (Or.inr g1), (Or.inr g2)⟩,
        fun h => by have h' := Or.resolve_left h (by decide); obtain ⟨g0, g1, g2⟩ := f7 h'; exact ⟨((eval_put_ne (by decide)).trans g0), (Or.inr g1), (Or.inr g2)⟩,
        fun h => by have h' := Or.resolve_left h (by decide); obtain ⟨g0, g1, g2⟩ := f8 h'; exact ⟨((eval_put_ne (by decide)).trans g0), (Or.inr g1), (Or.inr g2)⟩,
        fun h => by have h' := Or.resolve_left h (by decide); obtain ⟨g0, g1, g2, g3⟩ := f9 h'; exact ⟨((eval_put_ne (by decide)).trans g0), g1, (by obtain ⟨cs, hcs, hcz⟩ := g2; exact ⟨cs, hcs.below hbw, hcz⟩), (Nat.le_trans g3 hbw.size)⟩,
        fun h => by have h' := Or.resolve_left h (by decide); obtain ⟨g0, g1, g2, g3⟩ := f10 h'; exact ⟨((eval_put_ne (by decide)).trans g0), g1, (by obtain ⟨cs, hcs, hcz⟩ := g2; exact ⟨cs, hcs.below hbw, hcz⟩), (Nat.le_trans g3 hbw.size)⟩,
        fun h => by have h' := Or.resolve_left h (by decide); obtain ⟨g0, g1, g2, g3⟩ := f11 h'; exact ⟨(g0.below hbw), (Or.inr g1), (Or.inr g2), (Or.inr g3)⟩,
        fun h => by have h' := Or.resolve_left h (by decide); obtain ⟨g0, g1, g2, g3⟩ := f12 h'; exact ⟨(g0.below hbw), (Or.inr g1), (Or.inr g2), (Or.inr g3)⟩,
        fun h => by have h' := Or.resolve_left h (by decide); obtain ⟨g0, g1, g2⟩ := f13 h'; exact ⟨((eval_put_ne (by decide)).trans g0), (Or.inr g1), (Or.inr g2)⟩,
        fun h1 h2 => x0 (Or.resolve_left h1 (by decide)) (Or.resolve_left h2 (by decide)),
        fun h1 h2 => x1 (Or.resolve_left h1 (by decide)) (Or.resolve_left h2 (by decide)),
        fun h1 h2 => x2 (Or.resolve_left h1 (by decide)) (Or.resolve_left h2 (by decide)),
        fun h1 h2 => x3 (Or.resolve_left h1 (by decide)) (Or.resolve_left h2 (by decide)),
        fun h1 h2 => x4 (Or.resolve_left h1 (by decide)) (Or.resolve_left h2 (by decide)),
        fun h1 h2 => x5 (Or.resolve_left h1 (by decide)) (Or.resolve_left h2 (by decide)),
        fun h1 h2 => x6 (Or.resolve_left h1 (by decide)) (Or.resolve_left h2 (by decide))⟩
    · refine op_load o2 ((hf.eval (by decide)).trans h3) (loadLR (hR.below hb)) ?_
      exact ⟨hf.put (by decide) _, hb, P, Q', g, glo, ghi, ra, rcap, lo, hi, ra2, rcap2, lo2, hi2, fun h => by have h' := Or.resolve_left h (by decide); have g0 := f0 h'; exact ((eval_put_ne (by decide)).trans g0),
        fun h => by have h' := Or.resolve_left h (by decide); have g0 := f1 h'; exact ((eval_put_ne (by decide)).trans g0),
        fun _ => eval_put_self (by rw [hz]; decide),
        fun h => by have h' := Or.resolve_left h (by decide); obtain ⟨g0, g1, g2, g3⟩ := f3 h'; exact ⟨((eval_put_ne (by decide)).trans g0), g1, g2, g3⟩,
        fun h => by have h' := Or.resolve_left h (by decide); obtain ⟨g0, g1, g2, g3, g4, g5, g6⟩ := f4 h'; exact ⟨((eval_put_ne (by decide)).trans g0), g1, g2, g3, g4, g5, (Or.inr g6)⟩,
        fun h => by have h' := Or.resolve_left h (by decide); obtain ⟨g0, g1, g2⟩ := f5 h'; exact ⟨((eval_put_ne (by decide)).trans g0), (Or.inr g1), (Or.inr g2)⟩,
        fun h => by have h' := Or.resolve_left h (by decide); obtain ⟨g0, g1, g2⟩ := f6 h'; exact ⟨((eval_put_ne (by decide)).trans g0), (Or.inr g1), (Or.inr g2)⟩,
        fun h => by have h' := Or.resolve_left h (by decide); obtain ⟨g0, g1, g2⟩ := f7 h'; exact ⟨((eval_put_ne (by decide)).trans g0), (Or.inr g1), (Or.inr g2)⟩,
        fun h => by have h' := Or.resolve_left h (by decide); obtain ⟨g0, g1, g2⟩ := f8 h'; exact ⟨((eval_put_ne (by decide)).trans g0), (Or.inr g1), (Or.inr g2)⟩,
        fun h => by have h' := Or.resolve_left h (by decide); obtain ⟨g0, g1, g2, g3⟩ := f9 h'; exact ⟨((eval_put_ne (by decide)).trans g0), g1, g2, g3⟩,
        fun h => by have h' := Or.resolve_left h (by decide); obtain ⟨g0, g1, g2, g3⟩ := f10 h'; exact ⟨((eval_put_ne (by decide)).trans g0), g1, g2, g3⟩,
        fun h => by have h' := Or.resolve_left h (by decide); obtain ⟨g0, g1, g2, g3⟩ := f11 h'; exact ⟨g0, (Or.inr g1), (Or.inr g2), (Or.inr g3)⟩,
        fun h => by have h' := Or.resolve_left h (by decide); obtain ⟨g0, g1, g2, g3⟩ := f12 h'; exact ⟨g0, (Or.inr g1), (Or.inr g2), (Or.inr g3)⟩,
        fun h => by have h' := Or.resolve_left h (by decide); obtain ⟨g0, g1, g2⟩ := f13 h'; exact ⟨((eval_put_ne (by decide)).trans g0), (Or.inr g1), (Or.inr g2)⟩,
        fun h1 h2 => x0 (Or.resolve_left h1 (by decide)) (Or.resolve_left h2 (by decide)),
        fun h1 h2 => x1 (Or.resolve_left h1 (by decide)) (Or.resolve_left h2 (by decide)),
        fun h1 h2 => x2 (Or.resolve_left h1 (by decide)) (Or.resolve_left h2 (by decide)),
        fun h1 h2 => x3 (Or.resolve_left h1 (by decide)) (Or.resolve_left h2 (by decide)),
        fun h1 h2 => x4 (Or.resolve_left h1 (by decide)) (Or.resolve_left h2 (by decide)),
        fun h1 h2 => x5 (Or.resolve_left h1 (by decide)) (Or.resolve_left h2 (by decide)),
        fun h1 h2 => x6 (Or.resolve_left h1 (by decide)) (Or.resolve_left h2 (by decide))⟩
    · have d2 := waits u3_2 hdep
      have e2_0 := f2 d2
      refine op_call o3 (by simp only [List.map_toArray, List.map_cons, List.map_nil, e2_0]) rfl ((toRam_any sa cap L _ hl (RowB.below hrow hb)).mono ?_)
      rintro e w' ⟨g', rfl, om, hbw⟩
      have hbz := hbw.size
      have hb' := below_step hb hbw (Nat.le_refl _)
      refine ⟨_, rfl, ?_⟩
      exact ⟨hf.put (by decide) _, hb', P, Q', g', w.heap.size, w'.heap.size, ra, rcap, lo, hi, ra2, rcap2, lo2, hi2, fun h => by have h' := Or.resolve_left h (by decide); have g0 := f0 h'; exact ((eval_put_ne (by decide)).trans g0),
        fun h => by have h' := Or.resolve_left h (by decide); have g0 := f1 h'; exact ((eval_put_ne (by decide)).trans g0),
        fun h => by have h' := Or.resolve_left h (by decide); have g0 := f2 h'; exact ((eval_put_ne (by decide)).trans g0),
        fun _ => ⟨eval_put_self (by rw [hz]; decide), SegB.of om, hbs, Nat.le_refl _⟩,
        fun h => by have h' := Or.resolve_left h (by decide); obtain ⟨g0, g1, g2, g3, g4, g5, g6⟩ := f4 h'; exact absurd g6 hnd,
        fun h => by have h' := Or.resolve_left h (by decide); obtain ⟨g0, g1, g2⟩ := f5 h'; exact absurd g1 hnd,
        fun h => by have h' := Or.resolve_left h (by decide); obtain ⟨g0, g1, g2⟩ := f6 h'; exact absurd g1 hnd,
        fun h => by have h' := Or.resolve_left h (by decide); obtain ⟨g0, g1, g2⟩ := f7 h'; exact absurd g1 hnd,
        fun h => by have h' := Or.resolve_left h (by decide); obtain ⟨g0, g1, g2⟩ := f8 h'; exact absurd g1 hnd,
        fun h => by have h' := Or.resolve_left h (by decide); obtain ⟨g0, g1, g2, g3⟩ := f9 h'; exact ⟨((eval_put_ne (by decide)).trans g0), g1, (by obtain ⟨cs, hcs, hcz⟩ := g2; exact ⟨cs, hcs.below hbw, hcz⟩), (Nat.le_trans g3 hbw.size)⟩,
        fun h => by have h' := Or.resolve_left h (by decide); obtain ⟨g0, g1, g2, g3⟩ := f10 h'; exact ⟨((eval_put_ne (by decide)).trans g0), g1, (by obtain ⟨cs, hcs, hcz⟩ := g2; exact ⟨cs, hcs.below hbw, hcz⟩), (Nat.le_trans g3 hbw.size)⟩,
        fun h => by have h' := Or.resolve_left h (by decide); obtain ⟨g0, g1, g2, g3⟩ := f11 h'; exact absurd g1 hnd,
        fun h => by have h' := Or.resolve_left h (by decide); obtain ⟨g0, g1, g2, g3⟩ := f12 h'; exact absurd g1 hnd,
        fun h => by have h' := Or.resolve_left h (by decide); obtain ⟨g0, g1, g2⟩ := f13 h'; exact absurd g1 hnd,
        fun h1 h2 => by have h' := Or.resolve_left h2 (by decide); obtain ⟨g0, g1, g2, g3⟩ := f9 h'; omega,
        fun h1 h2 => by have h' := Or.resolve_left h2 (by decide); obtain ⟨g0, g1, g2, g3⟩ := f10 h'; omega,
        fun h1 h2 => x2 (Or.resolve_left h1 (by decide)) (Or.resolve_left h2 (by decide)),
        fun h1 h2 => x3 (Or.resolve_left h1 (by decide)) (Or.resolve_left h2 (by decide)),
        fun h1 h2 => x4 (Or.resolve_left h1 (by decide)) (Or.resolve_left h2 (by decide)),
        fun h1 h2 => x5 (Or.resolve_left h1 (by decide)) (Or.resolve_left h2 (by decide)),
        fun h1 h2 => x6 (Or.resolve_left h1 (by decide)) (Or.resolve_left h2 (by decide))⟩
    · have d1 := waits u4_1 hdep
      have e1_0 := f1 d1
      have d3 := waits u4_3 hdep
      obtain ⟨e3_0, e3_1, e3_2, e3_3⟩ := f3 d3
      refine op_call o4 (by simp only [List.map_toArray, List.map_cons, List.map_nil, e1_0, e3_0]) rfl ((HS g w e3_1.row).mono ?_)
      rintro e w' hst
      obtain ⟨ya, ycap, ya2, ycap2, ylo, yhi, ylo2, yhi2, rfl, sm, sc, ⟨q1, q2, q3, q4, q5, q6, q7⟩, hbw⟩ := hst.three
      have hbz := hbw.size
      have hb' := below_step hb hbw (Nat.le_refl _)
      refine ⟨_, rfl, ?_⟩
      exact ⟨hf.put (by decide) _, hb', P, Q', g, glo, ghi, ya, ycap, ylo, yhi, ya2, ycap2, ylo2, yhi2, fun h => by have h' := Or.resolve_left h (by decide); have g0 := f0 h'; exact ((eval_put_ne (by decide)).trans g0),
        fun h => by have h' := Or.resolve_left h (by decide); have g0 := f1 h'; exact ((eval_put_ne (by decide)).trans g0),
        fun h => by have h' := Or.resolve_left h (by decide); have g0 := f2 h'; exact ((eval_put_ne (by decide)).trans g0),
        fun h => by have h' := Or.resolve_left h (by decide); obtain ⟨g0, g1, g2, g3⟩ := f3 h'; exact ⟨((eval_put_ne (by decide)).trans g0), (g1.below hbw), g2, (Nat.le_trans g3 hbw.size)⟩,
        fun _ => ⟨eval_put_self (by rw [hz]; decide), sm, sc, ⟨by omega, by omega, q5, q6, q7⟩, q2, q4, Or.inr d3⟩,
        fun h => by have h' := Or.resolve_left h (by decide); obtain ⟨g0, g1, g2⟩ := f5 h'; exact absurd g2 hnd,
        fun h => by have h' := Or.resolve_left h (by decide); obtain ⟨g0, g1, g2⟩ := f6 h'; exact absurd g2 hnd,
        fun h => by have h' := Or.resolve_left h (by decide); obtain ⟨g0, g1, g2⟩ := f7 h'; exact absurd g2 hnd,
        fun h => by have h' := Or.resolve_left h (by decide); obtain ⟨g0, g1, g2⟩ := f8 h'; exact absurd g2 hnd,
        fun h => by have h' := Or.resolve_left h (by decide); obtain ⟨g0, g1, g2, g3⟩ := f9 h'; exact ⟨((eval_put_ne (by decide)).trans g0), g1, (by obtain ⟨cs, hcs, hcz⟩ := g2; exact ⟨cs, hcs.below hbw, hcz⟩), (Nat.le_trans g3 hbw.size)⟩,
        fun h => by have h' := Or.resolve_left h (by decide); obtain ⟨g0, g1, g2, g3⟩ := f10 h'; exact ⟨((eval_put_ne (by decide)).trans g0), g1, (by obtain ⟨cs, hcs, hcz⟩ := g2; exact ⟨cs, hcs.below hbw, hcz⟩), (Nat.le_trans g3 hbw.size)⟩,
        fun h => by have h' := Or.resolve_left h (by decide); obtain ⟨g0, g1, g2, g3⟩ := f11 h'; exact absurd g2 hnd,
        fun h => by have h' := Or.resolve_left h (by decide); obtain ⟨g0, g1, g2, g3⟩ := f12 h'; exact absurd g2 hnd,
        fun h => by have h' := Or.resolve_left h (by decide); obtain ⟨g0, g1, g2⟩ := f13 h'; exact absurd g2 hnd,
        fun h1 h2 => x0 (Or.resolve_left h1 (by decide)) (Or.resolve_left h2 (by decide)),
        fun h1 h2 => x1 (Or.resolve_left h1 (by decide)) (Or.resolve_left h2 (by decide)),
        fun h1 h2 => by have h' := Or.resolve_left h2 (by decide); obtain ⟨g0, g1, g2, g3⟩ := f9 h'; omega,
        fun h1 h2 => by have h' := Or.resolve_left h2 (by decide); obtain ⟨g0, g1, g2, g3⟩ := f9 h'; omega,
        fun h1 h2 => by have h' := Or.resolve_left h2 (by decide); obtain ⟨g0, g1, g2, g3⟩ := f10 h'; omega,
        fun h1 h2 => by have h' := Or.resolve_left h2 (by decide); obtain ⟨g0, g1, g2, g3⟩ := f10 h'; omega,
        fun h1 h2 => x6 (Or.resolve_left h1 (by decide)) (Or.resolve_left h2 (by decide))⟩
    · have d4 := waits u5_4 hdep
      obtain ⟨e4_0, e4_1, e4_2, e4_3, e4_4, e4_5, e4_6⟩ := f4 d4
      refine op_move o5 e4_0 ?_
      exact ⟨hf.put (by decide) _, hb, P, Q', g, glo, ghi, ra, rcap, lo, hi, ra2, rcap2, lo2, hi2, fun h => by have h' := Or.resolve_left h (by decide); have g0 := f0 h'; exact ((eval_put_ne (by decide)).trans g0),
        fun h => by have h' := Or.resolve_left h (by decide); have g0 := f1 h'; exact ((eval_put_ne (by decide)).trans g0),
        fun h => by have h' := Or.resolve_left h (by decide); have g0 := f2 h'; exact ((eval_put_ne (by decide)).trans g0),
        fun h => by have h' := Or.resolve_left h (by decide); obtain ⟨g0, g1, g2, g3⟩ := f3 h'; exact ⟨((eval_put_ne (by decide)).trans g0), g1, g2, g3⟩,
        fun h => by have h' := Or.resolve_left h (by decide); obtain ⟨g0, g1, g2, g3, g4, g5, g6⟩ := f4 h'; exact ⟨((eval_put_ne (by decide)).trans g0), g1, g2, g3, g4, g5, (Or.inr g6)⟩,
        fun _ => ⟨eval_put_self (by rw [hz]; decide), Or.inr e4_6, Or.inr d4⟩,
        fun h => by have h' := Or.resolve_left h (by decide); obtain ⟨g0, g1, g2⟩ := f6 h'; exact ⟨((eval_put_ne (by decide)).trans g0), (Or.inr g1), (Or.inr g2)⟩,
        fun h => by have h' := Or.resolve_left h (by decide); obtain ⟨g0, g1, g2⟩ := f7 h'; exact ⟨((eval_put_ne (by decide)).trans g0), (Or.inr g1), (Or.inr g2)⟩,
        fun h => by have h' := Or.resolve_left h (by decide); obtain ⟨g0, g1, g2⟩ := f8 h'; exact ⟨((eval_put_ne (by decide)).trans g0), (Or.inr g1), (Or.inr g2)⟩,
        fun h => by have h' := Or.resolve_left h (by decide); obtain ⟨g0, g1, g2, g3⟩ := f9 h'; exact ⟨((eval_put_ne (by decide)).trans g0), g1, g2, g3⟩,
        fun h => by have h' := Or.resolve_left h (by decide); obtain ⟨g0, g1, g2, g3⟩ := f10 h'; exact ⟨((eval_put_ne (by decide)).trans g0), g1, g2, g3⟩,
        fun h => by have h' := Or.resolve_left h (by decide); obtain ⟨g0, g1, g2, g3⟩ := f11 h'; exact ⟨g0, (Or.inr g1), (Or.inr g2), (Or.inr g3)⟩,
        fun h => by have h' := Or.resolve_left h (by decide); obtain ⟨g0, g1, g2, g3⟩ := f12 h'; exact ⟨g0, (Or.inr g1), (Or.inr g2), (Or.inr g3)⟩,
        fun h => by have h' := Or.resolve_left h (by decide); obtain ⟨g0, g1, g2⟩ := f13 h'; exact ⟨((eval_put_ne (by decide)).trans g0), (Or.inr g1), (Or.inr g2)⟩,
        fun h1 h2 => x0 (Or.resolve_left h1 (by decide)) (Or.resolve_left h2 (by decide)),
        fun h1 h2 => x1 (Or.resolve_left h1 (by decide)) (Or.resolve_left h2 (by decide)),
        fun h1 h2 => x2 (Or.resolve_left h1 (by decide)) (Or.resolve_left h2 (by decide)),
        fun h1 h2 => x3 (Or.resolve_left h1 (by decide)) (Or.resolve_left h2 (by decide)),
        fun h1 h2 => x4 (Or.resolve_left h1 (by decide)) (Or.resolve_left h2 (by decide)),
        fun h1 h2 => x5 (Or.resolve_left h1 (by decide)) (Or.resolve_left h2 (by decide)),
        fun h1 h2 => x6 (Or.resolve_left h1 (by decide)) (Or.resolve_left h2 (by decide))⟩
    · have d5 := waits u6_5 hdep
      obtain ⟨e5_0, e5_1, e5_2⟩ := f5 d5
      refine op_extract o6 e5_0 (by rfl) ?_
      exact ⟨hf.put (by decide) _, hb, P, Q', g, glo, ghi, ra, rcap, lo, hi, ra2, rcap2, lo2, hi2, fun h => by have h' := Or.resolve_left h (by decide); have g0 := f0 h'; exact ((eval_put_ne (by decide)).trans g0),
        fun h => by have h' := Or.resolve_left h (by decide); have g0 := f1 h'; exact ((eval_put_ne (by decide)).trans g0),
        fun h => by have h' := Or.resolve_left h (by decide); have g0 := f2 h'; exact ((eval_put_ne (by decide)).trans g0),
        fun h => by have h' := Or.resolve_left h (by decide); obtain ⟨g0, g1, g2, g3⟩ := f3 h'; exact ⟨((eval_put_ne (by decide)).trans g0), g1, g2, g3⟩,
        fun h => by have h' := Or.resolve_left h (by decide); obtain ⟨g0, g1, g2, g3, g4, g5, g6⟩ := f4 h'; exact ⟨((eval_put_ne (by decide)).trans g0), g1, g2, g3, g4, g5, (Or.inr g6)⟩,
        fun h => by have h' := Or.resolve_left h (by decide); obtain ⟨g0, g1, g2⟩ := f5 h'; exact ⟨((eval_put_ne (by decide)).trans g0), (Or.inr g1), (Or.inr g2)⟩,
        fun _ => ⟨eval_put_self (by rw [hz]; decide), Or.inr e5_1, Or.inr e5_2⟩,
        fun h => by have h' := Or.resolve_left h (by decide); obtain ⟨g0, g1, g2⟩ := f7 h'; exact ⟨((eval_put_ne (by decide)).trans g0), (Or.inr g1), (Or.inr g2)⟩,
        fun h => by have h' := Or.resolve_left h (by decide); obtain ⟨g0, g1, g2⟩ := f8 h'; exact ⟨((eval_put_ne (by decide)).trans g0), (Or.inr g1), (Or.inr g2)⟩,
        fun h => by have h' := Or.resolve_left h (by decide); obtain ⟨g0, g1, g2, g3⟩ := f9 h'; exact ⟨((eval_put_ne (by decide)).trans g0), g1, g2, g3⟩,
        fun h => by have h' := Or.resolve_left h (by decide); obtain ⟨g0, g1, g2, g3⟩ := f10 h'; exact ⟨((eval_put_ne (by decide)).trans g0), g1, g2, g3⟩,
        fun h => by have h' := Or.resolve_left h (by decide); obtain ⟨g0, g1, g2, g3⟩ := f11 h'; exact ⟨g0, (Or.inr g1), (Or.inr g2), (Or.inr g3)⟩,
        fun h => by have h' := Or.resolve_left h (by decide); obtain ⟨g0, g1, g2, g3⟩ := f12 h'; exact ⟨g0, (Or.inr g1), (Or.inr g2), (Or.inr g3)⟩,
        fun h => by have h' := Or.resolve_left h (by decide); obtain ⟨g0, g1, g2⟩ := f13 h'; exact ⟨((eval_put_ne (by decide)).trans g0), (Or.inr g1), (Or.inr g2)⟩,
        fun h1 h2 => x0 (Or.resolve_left h1 (by decide)) (Or.resolve_left h2 (by decide)),
        fun h1 h2 => x1 (Or.resolve_left h1 (by decide)) (Or.resolve_left h2 (by decide)),
        fun h1 h2 => x2 (Or.resolve_left h1 (by decide)) (Or.resolve_left h2 (by decide)),
        fun h1 h2 => x3 (Or.resolve_left h1 (by decide)) (Or.resolve_left h2 (by decide)),
        fun h1 h2 => x4 (Or.resolve_left h1 (by decide)) (Or.resolve_left h2 (by decide)),
        fun h1 h2 => x5 (Or.resolve_left h1 (by decide)) (Or.resolve_left h2 (by decide)),
        fun h1 h2 => x6 (Or.resolve_left h1 (by decide)) (Or.resolve_left h2 (by decide))⟩
    · have d5 := waits u7_5 hdep
      obtain ⟨e5_0, e5_1, e5_2⟩ := f5 d5
      refine op_extract o7 e5_0 (by rfl) ?_
      exact ⟨hf.put (by decide) _, hb, P, Q', g, glo, ghi, ra, rcap, lo, hi, ra2, rcap2, lo2, hi2, fun h => by have h' := Or.resolve_left h (by decide); have g0 := f0 h'; exact ((eval_put_ne (by decide)).trans g0),
        fun h => by have h' := Or.resolve_left h (by decide); have g0 := f1 h'; exact ((eval_put_ne (by decide)).trans g0),
        fun h => by have h' := Or.resolve_left h (by decide); have g0 := f2 h'; exact ((eval_put_ne (by decide)).trans g0),
        fun h => by have h' := Or.resolve_left h (by decide); obtain ⟨g0, g1, g2, g3⟩ := f3 h'; exact ⟨((eval_put_ne (by decide)).trans g0), g1, g2, g3⟩,
        fun h => by have h' := Or.resolve_left h (by decide); obtain ⟨g0, g1, g2, g3, g4, g5, g6⟩ := f4 h'; exact ⟨((eval_put_ne (by decide)).trans g0), g1, g2, g3, g4, g5, (Or.inr g6)⟩,
        fun h => by have h' := Or.resolve_left h (by decide); obtain ⟨g0, g1, g2⟩ := f5 h'; exact ⟨((eval_put_ne (by decide)).trans g0), (Or.inr g1), (Or.inr g2)⟩,
        fun h => by have h' := Or.resolve_left h (by decide); obtain ⟨g0, g1, g2⟩ := f6 h'; exact ⟨((eval_put_ne (by decide)).trans g0), (Or.inr g1), (Or.inr g2)⟩,
        fun _ => ⟨eval_put_self (by rw [hz]; decide), Or.inr e5_1, Or.inr e5_2⟩,
        fun h => by have h' := Or.resolve_left h (by decide); obtain ⟨g0, g1, g2⟩ := f8 h'; exact ⟨((eval_put_ne (by decide)).trans g0), (Or.inr g1), (Or.inr g2)⟩,
        fun h => by have h' := Or.resolve_left h (by decide); obtain ⟨g0, g1, g2, g3⟩ := f9 h'; exact ⟨((eval_put_ne (by decide)).trans g0), g1, g2, g3⟩,
        fun h => by have h' := Or.resolve_left h (by decide); obtain ⟨g0, g1, g2, g3⟩ := f10 h'; exact ⟨((eval_put_ne (by decide)).trans g0), g1, g2, g3⟩,
        fun h => by have h' := Or.resolve_left h (by decide); obtain ⟨g0, g1, g2, g3⟩ := f11 h'; exact ⟨g0, (Or.inr g1), (Or.inr g2), (Or.inr g3)⟩,
        fun h => by have h' := Or.resolve_left h (by decide); obtain ⟨g0, g1, g2, g3⟩ := f12 h'; exact ⟨g0, (Or.inr g1), (Or.inr g2), (Or.inr g3)⟩,
        fun h => by have h' := Or.resolve_left h (by decide); obtain ⟨g0, g1, g2⟩ := f13 h'; exact ⟨((eval_put_ne (by decide)).trans g0), (Or.inr g1), (Or.inr g2)⟩,
        fun h1 h2 => x0 (Or.resolve_left h1 (by decide)) (Or.resolve_left h2 (by decide)),
        fun h1 h2 => x1 (Or.resolve_left h1 (by decide)) (Or.resolve_left h2 (by decide)),
        fun h1 h2 => x2 (Or.resolve_left h1 (by decide)) (Or.resolve_left h2 (by decide)),
        fun h1 h2 => x3 (Or.resolve_left h1 (by decide)) (Or.resolve_left h2 (by decide)),
        fun h1 h2 => x4 (Or.resolve_left h1 (by decide)) (Or.resolve_left h2 (by decide)),
        fun h1 h2 => x5 (Or.resolve_left h1 (by decide)) (Or.resolve_left h2 (by decide)),
        fun h1 h2 => x6 (Or.resolve_left h1 (by decide)) (Or.resolve_left h2 (by decide))⟩
    · have d5 := waits u8_5 hdep
      obtain ⟨e5_0, e5_1, e5_2⟩ := f5 d5
      refine op_extract o8 e5_0 (by rfl) ?_
      exact ⟨hf.put (by decide) _, hb, P, Q', g, glo, ghi, ra, rcap, lo, hi, ra2, rcap2, lo2, hi2, fun h => by have h' := Or.resolve_left h (by decide); have g0 := f0 h'; exact ((eval_put_ne (by decide)).trans g0),
        fun h => by have h' := Or.resolve_left h (by decide); have g0 := f1 h'; exact ((eval_put_ne (by decide)).trans g0),
        fun h => by have h' := Or.resolve_left h (by decide); have g0 := f2 h'; exact ((eval_put_ne (by decide)).trans g0),
        fun h => by have h' := Or.resolve_left h (by decide); obtain ⟨g0, g1, g2, g3⟩ := f3 h'; exact ⟨((eval_put_ne (by decide)).trans g0), g1, g2, g3⟩,
        fun h => by have h' := Or.resolve_left h (by decide); obtain ⟨g0, g1, g2, g3, g4, g5, g6⟩ := f4 h'; exact ⟨((eval_put_ne (by decide)).trans g0), g1, g2, g3, g4, g5, (Or.inr g6)⟩,
        fun h => by have h' := Or.resolve_left h (by decide); obtain ⟨g0, g1, g2⟩ := f5 h'; exact ⟨((eval_put_ne (by decide)).trans g0), (Or.inr g1), (Or.inr g2)⟩,
        fun h => by have h' := Or.resolve_left h (by decide); obtain ⟨g0, g1, g2⟩ := f6 h'; exact ⟨((eval_put_ne (by decide)).trans g0), (Or.inr g1), (Or.inr g2)⟩,
        fun h => by have h' := Or.resolve_left h (by decide); obtain ⟨g0, g1, g2⟩ := f7 h'; exact ⟨((eval_put_ne (by decide)).trans g0), (Or.inr g1), (Or.inr g2)⟩,
        fun _ => ⟨eval_put_self (by rw [hz]; decide), Or.inr e5_1, Or.inr e5_2⟩,
        fun h => by have h' := Or.resolve_left h (by decide); obtain ⟨g0, g1, g2, g3⟩ := f9 h'; exact ⟨((eval_put_ne (by decide)).trans g0), g1, g2, g3⟩,
        fun h => by have h' := Or.resolve_left h (by decide); obtain ⟨g0, g1, g2, g3⟩ := f10 h'; exact ⟨((eval_put_ne (by decide)).trans g0), g1, g2, g3⟩,
        fun h => by have h' := Or.resolve_left h (by decide); obtain ⟨g0, g1, g2, g3⟩ := f11 h'; exact ⟨g0, (Or.inr g1), (Or.inr g2), (Or.inr g3)⟩,
        fun h => by have h' := Or.resolve_left h (by decide); obtain ⟨g0, g1, g2, g3⟩ := f12 h'; exact ⟨g0, (Or.inr g1), (Or.inr g2), (Or.inr g3)⟩,
        fun h => by have h' := Or.resolve_left h (by decide); obtain ⟨g0, g1, g2⟩ := f13 h'; exact ⟨((eval_put_ne (by decide)).trans g0), (Or.inr g1), (Or.inr g2)⟩,
        fun h1 h2 => x0 (Or.resolve_left h1 (by decide)) (Or.resolve_left h2 (by decide)),
        fun h1 h2 => x1 (Or.resolve_left h1 (by decide)) (Or.resolve_left h2 (by decide)),
        fun h1 h2 => x2 (Or.resolve_left h1 (by decide)) (Or.resolve_left h2 (by decide)),
        fun h1 h2 => x3 (Or.resolve_left h1 (by decide)) (Or.resolve_left h2 (by decide)),
        fun h1 h2 => x4 (Or.resolve_left h1 (by decide)) (Or.resolve_left h2 (by decide)),
        fun h1 h2 => x5 (Or.resolve_left h1 (by decide)) (Or.resolve_left h2 (by decide)),
        fun h1 h2 => x6 (Or.resolve_left h1 (by decide)) (Or.resolve_left h2 (by decide))⟩
    · obtain ⟨cs, hal, hcz⟩ := allocIC w
      refine op_alloc o9 hal ?_
      have hbw : Below w.heap.size w (w.alloc (.cells cs 28)) := (Below.refl _ _).alloc (Nat.le_refl _) _
      have hb' := below_step hb hbw (Nat.le_refl _)
      exact ⟨hf.put (by decide) _, hb', w.heap.size, Q', g, glo, ghi, ra, rcap, lo, hi, ra2, rcap2, lo2, hi2, fun h => by have h' := Or.resolve_left h (by decide); have g0 := f0 h'; exact ((eval_put_ne (by decide)).trans g0),
        fun h => by have h' := Or.resolve_left h (by decide); have g0 := f1 h'; exact ((eval_put_ne (by decide)).trans g0),
        fun h => by have h' := Or.resolve_left h (by decide); have g0 := f2 h'; exact ((eval_put_ne (by decide)).trans g0),
        fun h => by have h' := Or.resolve_left h (by decide); obtain ⟨g0, g1, g2, g3⟩ := f3 h'; exact ⟨((eval_put_ne (by decide)).trans g0), (g1.below hbw), g2, (Nat.le_trans g3 hbw.size)⟩,
        fun h => by have h' := Or.resolve_left h (by decide); obtain ⟨g0, g1, g2, g3, g4, g5, g6⟩ := f4 h'; exact ⟨((eval_put_ne (by decide)).trans g0), (g1.below hbw), (g2.below hbw), g3, (Nat.le_trans g4 hbw.size), (Nat.le_trans g5 hbw.size), (Or.inr g6)⟩,
        fun h => by have h' := Or.resolve_left h (by decide); obtain ⟨g0, g1, g2⟩ := f5 h'; exact ⟨((eval_put_ne (by decide)).trans g0), (Or.inr g1), (Or.inr g2)⟩,
        fun h => by have h' := Or.resolve_left h (by decide); obtain ⟨g0, g1, g2⟩ := f6 h'; exact ⟨((eval_put_ne (by decide)).trans g0), (Or.inr g1), (Or.inr g2)⟩,
        fun h => by have h' := Or.resolve_left h (by decide); obtain ⟨g0, g1, g2⟩ := f7 h'; exact ⟨((eval_put_ne (by decide)).trans g0), (Or.inr g1), (Or.inr g2)⟩,
        fun h => by have h' := Or.resolve_left h (by decide); obtain ⟨g0, g1, g2⟩ := f8 h'; exact ⟨((eval_put_ne (by decide)).trans g0), (Or.inr g1), (Or.inr g2)⟩,
        fun _ => ⟨eval_put_self (by rw [hz]; decide), hbs, ⟨cs, BoxN.new _ _ _, hcz⟩, Nat.le_of_eq (World.size_alloc _ _).symm⟩,
        fun h => by have h' := Or.resolve_left h (by decide); obtain ⟨g0, g1, g2, g3⟩ := f10 h'; exact ⟨((eval_put_ne (by decide)).trans g0), g1, (by obtain ⟨cs, hcs, hcz⟩ := g2; exact ⟨cs, hcs.below hbw, hcz⟩), (Nat.le_trans g3 hbw.size)⟩,
        fun h => by have h' := Or.resolve_left h (by decide); obtain ⟨g0, g1, g2, g3⟩ := f11 h'; exact absurd g3 hnd,
        fun h => by have h' := Or.resolve_left h (by decide); obtain ⟨g0, g1, g2, g3⟩ := f12 h'; exact ⟨(g0.below hbw), (Or.inr g1), (Or.inr g2), (Or.inr g3)⟩,
        fun h => by have h' := Or.resolve_left h (by decide); obtain ⟨g0, g1, g2⟩ := f13 h'; exact ⟨((eval_put_ne (by decide)).trans g0), (Or.inr g1), (Or.inr g2)⟩,
        fun h1 h2 => by have h' := Or.resolve_left h1 (by decide); obtain ⟨g0, g1, g2, g3⟩ := f3 h'; omega,
        fun h1 h2 => x1 (Or.resolve_left h1 (by decide)) (Or.resolve_left h2 (by decide)),
        fun h1 h2 => by have h' := Or.resolve_left h1 (by decide); obtain ⟨g0, g1, g2, g3, g4, g5, g6⟩ := f4 h'; omega,
        fun h1 h2 => by have h' := Or.resolve_left h1 (by decide); obtain ⟨g0, g1, g2, g3, g4, g5, g6⟩ := f4 h'; omega,
        fun h1 h2 => x4 (Or.resolve_left h1 (by decide)) (Or.resolve_left h2 (by decide)),
        fun h1 h2 => x5 (Or.resolve_left h1 (by decide)) (Or.resolve_left h2 (by decide)),
        fun h1 h2 => by have h' := Or.resolve_left h2 (by decide); obtain ⟨g0, g1, g2, g3⟩ := f10 h'; omega⟩
    · obtain ⟨cs, hal, hcz⟩ := allocIR w
      refine op_alloc o10 hal ?_
      have hbw : Below w.heap.size w (w.alloc (.cells cs 30)) := (Below.refl _ _).alloc (Nat.le_refl _) _
      have hb' := below_step hb hbw (Nat.le_refl _)
      exact ⟨hf.put (by decide) _, hb', P, w.heap.size, g, glo, ghi, ra, rcap, lo, hi, ra2, rcap2, lo2, hi2, fun h => by have h' := Or.resolve_left h (by decide); have g0 := f0 h'; exact ((eval_put_ne (by decide)).trans g0),
        fun h => by have h' := Or.resolve_left h (by decide); have g0 := f1 h'; exact ((eval_put_ne (by decide)).trans g0),
        fun h => by have h' := Or.resolve_left h (by decide); have g0 := f2 h'; exact ((eval_put_ne (by decide)).trans g0),
        fun h => by have h' := Or.resolve_left h (by decide); obtain ⟨g0, g1, g2, g3⟩ := f3 h'; exact ⟨((eval_put_ne (by decide)).trans g0), (g1.below hbw), g2, (Nat.le_trans g3 hbw.size)⟩,
        fun h => by have h' := Or.resolve_left h (by decide); obtain ⟨g0, g1, g2, g3, g4, g5, g6⟩ := f4 h'; exact ⟨((eval_put_ne (by decide)).trans g0), (g1.below hbw), (g2.below hbw), g3, (Nat.le_trans g4 hbw.size), (Nat.le_trans g5 hbw.size), (Or.inr g6)⟩,
        fun h => by have h' := Or.resolve_left h (by decide); obtain ⟨g0, g1, g2⟩ := f5 h'; exact ⟨((eval_put_ne (by decide)).trans g0), (Or.inr g1), (Or.inr g2)⟩,
        fun h => by have h' := Or.resolve_left h (by decide); obtain ⟨g0, g1, g2⟩ := f6 h'; exact ⟨((eval_put_ne (by decide)).trans g0), (Or.inr g1), (Or.inr g2)⟩,
        fun h => by have h' := Or.resolve_left h (by decide); obtain ⟨g0, g1, g2⟩ := f7 h'; exact ⟨((eval_put_ne (by decide)).trans g0), (Or.inr g1), (Or.inr g2)⟩,
        fun h => by have h' := Or.resolve_left h (by decide); obtain ⟨g0, g1, g2⟩ := f8 h'; exact ⟨((eval_put_ne (by decide)).trans g0), (Or.inr g1), (Or.inr g2)⟩,
        fun h => by have h' := Or.resolve_left h (by decide); obtain ⟨g0, g1, g2, g3⟩ := f9 h'; exact ⟨((eval_put_ne (by decide)).trans g0), g1, (by obtain ⟨cs, hcs, hcz⟩ := g2; exact ⟨cs, hcs.below hbw, hcz⟩), (Nat.le_trans g3 hbw.size)⟩,
        fun _ => ⟨eval_put_self (by rw [hz]; decide), hbs, ⟨cs, BoxN.new _ _ _, hcz⟩, Nat.le_of_eq (World.size_alloc _ _).symm⟩,
        fun h => by have h' := Or.resolve_left h (by decide); obtain ⟨g0, g1, g2, g3⟩ := f11 h'; exact ⟨(g0.below hbw), (Or.inr g1), (Or.inr g2), (Or.inr g3)⟩,
        fun h => by have h' := Or.resolve_left h (by decide); obtain ⟨g0, g1, g2, g3⟩ := f12 h'; exact absurd g3 hnd,
        fun h => by have h' := Or.resolve_left h (by decide); obtain ⟨g0, g1, g2⟩ := f13 h'; exact ⟨((eval_put_ne (by decide)).trans g0), (Or.inr g1), (Or.inr g2)⟩,
        fun h1 h2 => x0 (Or.resolve_left h1 (by decide)) (Or.resolve_left h2 (by decide)),
        fun h1 h2 => by have h' := Or.resolve_left h1 (by decide); obtain ⟨g0, g1, g2, g3⟩ := f3 h'; omega,
        fun h1 h2 => x2 (Or.resolve_left h1 (by decide)) (Or.resolve_left h2 (by decide)),
        fun h1 h2 => x3 (Or.resolve_left h1 (by decide)) (Or.resolve_left h2 (by decide)),
        fun h1 h2 => by have h' := Or.resolve_left h1 (by decide); obtain ⟨g0, g1, g2, g3, g4, g5, g6⟩ := f4 h'; omega,
        fun h1 h2 => by have h' := Or.resolve_left h1 (by decide); obtain ⟨g0, g1, g2, g3, g4, g5, g6⟩ := f4 h'; omega,
        fun h1 h2 => by have h' := Or.resolve_left h1 (by decide); obtain ⟨g0, g1, g2, g3⟩ := f9 h'; omega⟩
    · have d9 := waits u11_9 hdep
      obtain ⟨e9_0, e9_1, e9_2, e9_3⟩ := f9 d9
      have d6 := waits u11_6 hdep
      obtain ⟨e6_0, e6_1, e6_2⟩ := f6 d6
      obtain ⟨cs, hcs, hcz⟩ := e9_2
      obtain ⟨w', hst, hnew, hsp⟩ := storeIC hcs hcz
      refine op_store o11 e9_0 e6_0 hst ?_
      have hb' := hb.trans (hsp.below e9_1 hbs)
      exact ⟨hf, hb', P, Q', g, glo, ghi, ra, rcap, lo, hi, ra2, rcap2, lo2, hi2, fun h => by have h' := Or.resolve_left h (by decide); have g0 := f0 h'; exact g0,
        fun h => by have h' := Or.resolve_left h (by decide); have g0 := f1 h'; exact g0,
        fun h => by have h' := Or.resolve_left h (by decide); have g0 := f2 h'; exact g0,
        fun h => by have h' := Or.resolve_left h (by decide); have := x0 h' d9; obtain ⟨g0, g1, g2, g3⟩ := f3 h'; exact ⟨g0, (g1.span hsp (by omega)), g2, (Nat.le_trans g3 hsp.size)⟩,
        fun h => by have h' := Or.resolve_left h (by decide); have := x2 h' d9; have := x3 h' d9; obtain ⟨g0, g1, g2, g3, g4, g5, g6⟩ := f4 h'; exact ⟨g0, (g1.span hsp (by omega)), (g2.span hsp (by omega)), g3, (Nat.le_trans g4 hsp.size), (Nat.le_trans g5 hsp.size), (Or.inr g6)⟩,
        fun h => by have h' := Or.resolve_left h (by decide); obtain ⟨g0, g1, g2⟩ := f5 h'; exact ⟨g0, (Or.inr g1), (Or.inr g2)⟩,
        fun h => by have h' := Or.resolve_left h (by decide); obtain ⟨g0, g1, g2⟩ := f6 h'; exact ⟨g0, (Or.inr g1), (Or.inr g2)⟩,
        fun h => by have h' := Or.resolve_left h (by decide); obtain ⟨g0, g1, g2⟩ := f7 h'; exact ⟨g0, (Or.inr g1), (Or.inr g2)⟩,
        fun h => by have h' := Or.resolve_left h (by decide); obtain ⟨g0, g1, g2⟩ := f8 h'; exact ⟨g0, (Or.inr g1), (Or.inr g2)⟩,
        fun h => by have h' := Or.resolve_left h (by decide); obtain ⟨g0, g1, g2, g3⟩ := f9 h'; exact ⟨g0, g1, ⟨_, hnew, rfl⟩, (Nat.le_trans g3 hsp.size)⟩,
        fun h => by have h' := Or.resolve_left h (by decide); have := x6 d9 h'; obtain ⟨g0, g1, g2, g3⟩ := f10 h'; exact ⟨g0, g1, (by obtain ⟨cs, hcs, hcz⟩ := g2; exact ⟨cs, hcs.span hsp (by omega), hcz⟩), (Nat.le_trans g3 hsp.size)⟩,
        fun _ => ⟨hnew, Or.inr e6_1, Or.inr e6_2, Or.inr d9⟩,
        fun h => by have h' := Or.resolve_left h (by decide); obtain ⟨g0, g1, g2, g3⟩ := f12 h'; have := x6 d9 g3; exact ⟨(g0.span hsp (by omega)), (Or.inr g1), (Or.inr g2), (Or.inr g3)⟩,
        fun h => by have h' := Or.resolve_left h (by decide); obtain ⟨g0, g1, g2⟩ := f13 h'; exact ⟨g0, (Or.inr g1), (Or.inr g2)⟩,
        fun h1 h2 => x0 (Or.resolve_left h1 (by decide)) (Or.resolve_left h2 (by decide)),
        fun h1 h2 => x1 (Or.resolve_left h1 (by decide)) (Or.resolve_left h2 (by decide)),
        fun h1 h2 => x2 (Or.resolve_left h1 (by decide)) (Or.resolve_left h2 (by decide)),
        fun h1 h2 => x3 (Or.resolve_left h1 (by decide)) (Or.resolve_left h2 (by decide)),
        fun h1 h2 => x4 (Or.resolve_left h1 (by decide)) (Or.resolve_left h2 (by decide)),
        fun h1 h2 => x5 (Or.resolve_left h1 (by decide)) (Or.resolve_left h2 (by decide)),
        fun h1 h2 => x6 (Or.resolve_left h1 (by decide)) (Or.resolve_left h2 (by decide))⟩
    · have d10 := waits u12_10 hdep
      obtain ⟨e10_0, e10_1, e10_2, e10_3⟩ := f10 d10
      have d7 := waits u12_7 hdep
      obtain ⟨e7_0, e7_1, e7_2⟩ := f7 d7
      obtain ⟨cs, hcs, hcz⟩ := e10_2
      obtain ⟨w', hst, hnew, hsp⟩ := storeIR hcs hcz
      refine op_store o12 e10_0 e7_0 hst ?_
      have hb' := hb.trans (hsp.below e10_1 hbs)
      exact ⟨hf, hb', P, Q', g, glo, ghi, ra, rcap, lo, hi, ra2, rcap2, lo2, hi2, fun h => by have h' := Or.resolve_left h (by decide); have g0 := f0 h'; exact g0,
        fun h => by have h' := Or.resolve_left h (by decide); have g0 := f1 h'; exact g0,
        fun h => by have h' := Or.resolve_left h (by decide); have g0 := f2 h'; exact g0,
        fun h => by have h' := Or.resolve_left h (by decide); have := x1 h' d10; obtain ⟨g0, g1, g2, g3⟩ := f3 h'; exact ⟨g0, (g1.span hsp (by omega)), g2, (Nat.le_trans g3 hsp.size)⟩,
        fun h => by have h' := Or.resolve_left h (by decide); have := x4 h' d10; have := x5 h' d10; obtain ⟨g0, g1, g2, g3, g4, g5, g6⟩ := f4 h'; exact ⟨g0, (g1.span hsp (by omega)), (g2.span hsp (by omega)), g3, (Nat.le_trans g4 hsp.size), (Nat.le_trans g5 hsp.size), (Or.inr g6)⟩,
        fun h => by have h' := Or.resolve_left h (by decide); obtain ⟨g0, g1, g2⟩ := f5 h'; exact ⟨g0, (Or.inr g1), (Or.inr g2)⟩,
        fun h => by have h' := Or.resolve_left h (by decide); obtain ⟨g0, g1, g2⟩ := f6 h'; exact ⟨g0, (Or.inr g1), (Or.inr g2)⟩,
        fun h => by have h' := Or.resolve_left h (by decide); obtain ⟨g0, g1, g2⟩ := f7 h'; exact ⟨g0, (Or.inr g1), (Or.inr g2)⟩,
        fun h => by have h' := Or.resolve_left h (by decide); obtain ⟨g0, g1, g2⟩ := f8 h'; exact ⟨g0, (Or.inr g1), (Or.inr g2)⟩,
        fun h => by have h' := Or.resolve_left h (by decide); have := x6 h' d10; obtain ⟨g0, g1, g2, g3⟩ := f9 h'; exact ⟨g0, g1, (by obtain ⟨cs, hcs, hcz⟩ := g2; exact ⟨cs, hcs.span hsp (by omega), hcz⟩), (Nat.le_trans g3 hsp.size)⟩,
        fun h => by have h' := Or.resolve_left h (by decide); obtain ⟨g0, g1, g2, g3⟩ := f10 h'; exact ⟨g0, g1, ⟨_, hnew, rfl⟩, (Nat.le_trans g3 hsp.size)⟩,
        fun h => by have h' := Or.resolve_left h (by decide); obtain ⟨g0, g1, g2, g3⟩ := f11 h'; have := x6 g3 d10; exact ⟨(g0.span hsp (by omega)), (Or.inr g1), (Or.inr g2), (Or.inr g3)⟩,
        fun _ => ⟨hnew, Or.inr e7_1, Or.inr e7_2, Or.inr d10⟩,
        fun h => by have h' := Or.resolve_left h (by decide); obtain ⟨g0, g1, g2⟩ := f13 h'; exact ⟨g0, (Or.inr g1), (Or.inr g2)⟩,
        fun h1 h2 => x0 (Or.resolve_left h1 (by decide)) (Or.resolve_left h2 (by decide)),
        fun h1 h2 => x1 (Or.resolve_left h1 (by decide)) (Or.resolve_left h2 (by decide)),
        fun h1 h2 => x2 (Or.resolve_left h1 (by decide)) (Or.resolve_left h2 (by decide)),
        fun h1 h2 => x3 (Or.resolve_left h1 (by decide)) (Or.resolve_left h2 (by decide)),
        fun h1 h2 => x4 (Or.resolve_left h1 (by decide)) (Or.resolve_left h2 (by decide)),
        fun h1 h2 => x5 (Or.resolve_left h1 (by decide)) (Or.resolve_left h2 (by decide)),
        fun h1 h2 => x6 (Or.resolve_left h1 (by decide)) (Or.resolve_left h2 (by decide))⟩
    · have d8 := waits u13_8 hdep
      obtain ⟨e8_0, e8_1, e8_2⟩ := f8 d8
      refine op_assign o13 e8_0 ?_
      exact ⟨hf.put (by decide) _, hb, P, Q', g, glo, ghi, ra, rcap, lo, hi, ra2, rcap2, lo2, hi2, fun h => by have h' := Or.resolve_left h (by decide); have g0 := f0 h'; exact ((eval_put_ne (by decide)).trans g0),
        fun h => by have h' := Or.resolve_left h (by decide); have g0 := f1 h'; exact ((eval_put_ne (by decide)).trans g0),
        fun h => by have h' := Or.resolve_left h (by decide); have g0 := f2 h'; exact ((eval_put_ne (by decide)).trans g0),
        fun h => by have h' := Or.resolve_left h (by decide); obtain ⟨g0, g1, g2, g3⟩ := f3 h'; exact ⟨((eval_put_ne (by decide)).trans g0), g1, g2, g3⟩,
        fun h => by have h' := Or.resolve_left h (by decide); obtain ⟨g0, g1, g2, g3, g4, g5, g6⟩ := f4 h'; exact ⟨((eval_put_ne (by decide)).trans g0), g1, g2, g3, g4, g5, (Or.inr g6)⟩,
        fun h => by have h' := Or.resolve_left h (by decide); obtain ⟨g0, g1, g2⟩ := f5 h'; exact ⟨((eval_put_ne (by decide)).trans g0), (Or.inr g1), (Or.inr g2)⟩,
        fun h => by have h' := Or.resolve_left h (by decide); obtain ⟨g0, g1, g2⟩ := f6 h'; exact ⟨((eval_put_ne (by decide)).trans g0), (Or.inr g1), (Or.inr g2)⟩,
        fun h => by have h' := Or.resolve_left h (by decide); obtain ⟨g0, g1, g2⟩ := f7 h'; exact ⟨((eval_put_ne (by decide)).trans g0), (Or.inr g1), (Or.inr g2)⟩,
        fun h => by have h' := Or.resolve_left h (by decide); obtain ⟨g0, g1, g2⟩ := f8 h'; exact ⟨((eval_put_ne (by decide)).trans g0), (Or.inr g1), (Or.inr g2)⟩,
        fun h => by have h' := Or.resolve_left h (by decide); obtain ⟨g0, g1, g2, g3⟩ := f9 h'; exact ⟨((eval_put_ne (by decide)).trans g0), g1, g2, g3⟩,
        fun h => by have h' := Or.resolve_left h (by decide); obtain ⟨g0, g1, g2, g3⟩ := f10 h'; exact ⟨((eval_put_ne (by decide)).trans g0), g1, g2, g3⟩,
        fun h => by have h' := Or.resolve_left h (by decide); obtain ⟨g0, g1, g2, g3⟩ := f11 h'; exact ⟨g0, (Or.inr g1), (Or.inr g2), (Or.inr g3)⟩,
        fun h => by have h' := Or.resolve_left h (by decide); obtain ⟨g0, g1, g2, g3⟩ := f12 h'; exact ⟨g0, (Or.inr g1), (Or.inr g2), (Or.inr g3)⟩,
        fun _ => ⟨eval_put_self (by rw [hz]; decide), Or.inr e8_1, Or.inr e8_2⟩,
        fun h1 h2 => x0 (Or.resolve_left h1 (by decide)) (Or.resolve_left h2 (by decide)),
        fun h1 h2 => x1 (Or.resolve_left h1 (by decide)) (Or.resolve_left h2 (by decide)),
        fun h1 h2 => x2 (Or.resolve_left h1 (by decide)) (Or.resolve_left h2 (by decide)),
        fun h1 h2 => x3 (Or.resolve_left h1 (by decide)) (Or.resolve_left h2 (by decide)),
        fun h1 h2 => x4 (Or.resolve_left h1 (by decide)) (Or.resolve_left h2 (by decide)),
        fun h1 h2 => x5 (Or.resolve_left h1 (by decide)) (Or.resolve_left h2 (by decide)),
        fun h1 h2 => x6 (Or.resolve_left h1 (by decide)) (Or.resolve_left h2 (by decide))⟩
  · intro D a w hD hI
    obtain ⟨hf, hb, P, Q', g, glo, ghi, ra, rcap, lo, hi, ra2, rcap2, lo2, hi2, f0, f1, f2, f3, f4, f5, f6, f7, f8, f9, f10, f11, f12, f13, x0, x1, x2, x3, x4, x5, x6⟩ := hI
    rw [hn] at hD
    have e0_0 := f0 (hD 0 (by decide))
    have e1_0 := f1 (hD 1 (by decide))
    have e2_0 := f2 (hD 2 (by decide))
    obtain ⟨e3_0, e3_1, e3_2, e3_3⟩ := f3 (hD 3 (by decide))
    obtain ⟨e4_0, e4_1, e4_2, e4_3, e4_4, e4_5, e4_6⟩ := f4 (hD 4 (by decide))
    obtain ⟨e5_0, e5_1, e5_2⟩ := f5 (hD 5 (by decide))
    obtain ⟨e6_0, e6_1, e6_2⟩ := f6 (hD 6 (by decide))
    obtain ⟨e7_0, e7_1, e7_2⟩ := f7 (hD 7 (by decide))
    obtain ⟨e8_0, e8_1, e8_2⟩ := f8 (hD 8 (by decide))
    obtain ⟨e9_0, e9_1, e9_2, e9_3⟩ := f9 (hD 9 (by decide))
    obtain ⟨e10_0, e10_1, e10_2, e10_3⟩ := f10 (hD 10 (by decide))
    obtain ⟨e11_0, e11_1, e11_2, e11_3⟩ := f11 (hD 11 (by decide))
    obtain ⟨e12_0, e12_1, e12_2, e12_3⟩ := f12 (hD 12 (by decide))
    obtain ⟨e13_0, e13_1, e13_2⟩ := f13 (hD 13 (by decide))
    have y0 := x0 (hD 3 (by decide)) (hD 9 (by decide))
    have y1 := x1 (hD 3 (by decide)) (hD 10 (by decide))
    have y2 := x2 (hD 4 (by decide)) (hD 9 (by decide))
    have y3 := x3 (hD 4 (by decide)) (hD 9 (by decide))
    have y4 := x4 (hD 4 (by decide)) (hD 10 (by decide))
    have y5 := x5 (hD 4 (by decide)) (hD 10 (by decide))
    have y6 := x6 (hD 9 (by decide)) (hD 10 (by decide))
    have hw := hb.size
    obtain ⟨n1, n2, n3, n4, n5⟩ := e4_3
    exact hQ a w hf ⟨P, Q', ra, rcap, ra2, rcap2, lo, hi, lo2, hi2, e9_0, e10_0, e13_0, e11_0, e12_0, e4_1, e4_2, ⟨by omega, by omega, by omega, by omega, by omega, by omega, by omega, n3, n4, n5, by omega, by omega, by omega, by omega⟩, hb⟩
  · exact ⟨FrameIs.refl _ _, (Below.refl _ _).drew, 0, 0, 0, 0, 0, none, 0, 0, 0, none, 0, 0, 0, fun h => False.elim h, fun h => False.elim h, fun h => False.elim h, fun h => False.elim h, fun h => False.elim h, fun h => False.elim h, fun h => False.elim h, fun h => False.elim h, fun h => False.elim h, fun h => False.elim h, fun h => False.elim h, fun h => False.elim h, fun h => False.elim h, fun h => False.elim h, fun h => False.elim h, fun h => False.elim h, fun h => False.elim h, fun h => False.elim h, fun h => False.elim h, fun h => False.elim h, fun h => False.elim h⟩

end Go.Proofs.YtblchdmemhhcbaaGreat
