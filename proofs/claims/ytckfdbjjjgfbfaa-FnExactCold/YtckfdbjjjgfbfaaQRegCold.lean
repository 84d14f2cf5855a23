/-
  The region of the model's Cold that leaves its order open.
-/
import Derived.Test.YtckfdbjjjgfbfaaQRegMore
namespace Go.Proofs.Ytckfdbjjjgfbfaa
set_option linter.unusedVariables false
set_option linter.unusedSimpArgs false
open Go.RowKit

abbrev zero11 : Array Value := #[.int .u8 0, .int .u8 0, .int .u8 0, .int .u8 0, .int .u16 0, .bool false, .bool false, .bool false, .bool false, .bool false, .bool false]

theorem w16nat {n : Nat} (h : n < 65536) : IntKind.u16.wrap ((n : Nat) : Int) = ((n : Nat) : Int) := by simp only [IntKind.wrap, IntKind.bits, IntKind.signed]; simp; omega

theorem coldReg_ops (ops : Array Oper) (h : regionOps 3 (Try.f10.body.getD .skip) = some ops) : backward ops = true ∧ ops.size = 9 ∧ IsOp ops 0 (some 7) (.load 30 (.tmp 1)) ∧ IsOp ops 1 (some 8) (.call ⟨.value (.func 27), #[.tmp 7, .const (.int .u16 65532)], #[30, 24]⟩) ∧ IsOp ops 2 (some 9) (.load 30 (.tmp 1)) ∧ IsOp ops 3 (some 10) (.call ⟨.value (.func 27), #[.tmp 9, .const (.int .u16 65533)], #[30, 24]⟩) ∧ IsOp ops 4 (some 11) (.call ⟨.value (.func 26), #[.tmp 8, .tmp 10], #[5, 5]⟩) ∧ IsOp ops 5 (some 12) (.convert 3 24 (.tmp 11)) ∧ IsOp ops 6 (some 13) (.build 26 #[(3, .const (.bool true))]) ∧ IsOp ops 7 (some 14) (.build 28 #[(3, .const (.int .u8 253)), (4, .tmp 12), (5, .tmp 13)]) ∧ IsOp ops 8 none (.store 28 (.tmp 2) (.tmp 14)) ∧ Waits ops 1 0 ∧ Waits ops 3 2 ∧ Waits ops 4 1 ∧ Waits ops 4 3 ∧ Waits ops 5 4 ∧ Waits ops 7 5 ∧ Waits ops 7 6 ∧ Waits ops 8 7 := by
  obtain rfl : ops = (regionOps 3 (Try.f10.body.getD .skip)).getD #[] := by rw [h]; rfl
  exact ⟨by kernel_rfl, by kernel_rfl, by unfold IsOp; kernel_rfl, by unfold IsOp; kernel_rfl, by unfold IsOp; kernel_rfl, by unfold IsOp; kernel_rfl, by unfold IsOp; kernel_rfl, by unfold IsOp; kernel_rfl, by unfold IsOp; kernel_rfl, by unfold IsOp; kernel_rfl, by unfold IsOp; kernel_rfl, by unfold Waits; kernel_rfl, by unfold Waits; kernel_rfl, by unfold Waits; kernel_rfl, by unfold Waits; kernel_rfl, by unfold Waits; kernel_rfl, by unfold Waits; kernel_rfl, by unfold Waits; kernel_rfl, by unfold Waits; kernel_rfl⟩

abbrev coldReg_I (R : Nat) (x y z : Nat) (sa : Option Addr) (n cap : Nat) (C : Nat) (V : World) (a0 : Act) (D : Nat → Prop) (a : Act) (w : World) : Prop :=
  FrameIs a0 [7, 8, 9, 10, 11, 12, 13, 14] a ∧ Span C (C + 1) V w ∧ ∃ (un : Unit), (D 0 → a.eval (.tmp 7) = ramV (.slice sa n cap)) ∧ (D 1 → a.eval (.tmp 8) = .int .u8 (x : Int)) ∧ (D 2 → a.eval (.tmp 9) = ramV (.slice sa n cap)) ∧ (D 3 → a.eval (.tmp 10) = .int .u8 (y : Int)) ∧ (D 4 → a.eval (.tmp 11) = .int .i64 ((z : Nat) : Int)) ∧ (D 5 → a.eval (.tmp 12) = .int .u16 ((z : Nat) : Int)) ∧ (D 6 → a.eval (.tmp 13) = .agg #[.bool false, .bool false, .bool false, .bool true, .bool false, .bool false]) ∧ (D 7 → a.eval (.tmp 14) = cpuV ⟨0, 0, 0, 253, z, false, false, false, true, false, false⟩) ∧ (D 8 → BoxN w C 28 (cpuCells ⟨0, 0, 0, 253, z, false, false, false, true, false, false⟩)) ∧ (∃ cs : Array Value, BoxN w C 28 cs ∧ cs.size = 11)

set_option maxRecDepth 100000 in
set_option maxHeartbeats 4000000 in
theorem coldReg (R : Nat) (x y z : Nat) (sa : Option Addr) (n cap : Nat) (C : Nat) (V : World) (hR : BoxN V R 30 #[.slice sa n cap]) (hC : BoxN V C 28 zero11) (hne : R ≠ C) (hz1 : z < 65536) (H1 : ∀ W : World, Span C (C + 1) V W → Calls Try.prog 27 #[ramV (.slice sa n cap), .int .u16 65532] W fun e w' => e = .returned (.int .u8 (x : Int)) ∧ Below W.heap.size W w') (H2 : ∀ W : World, Span C (C + 1) V W → Calls Try.prog 27 #[ramV (.slice sa n cap), .int .u16 65533] W fun e w' => e = .returned (.int .u8 (y : Int)) ∧ Below W.heap.size W w') (H3 : ∀ W : World, Calls Try.prog 26 #[.int .u8 (x : Int), .int .u8 (y : Int)] W fun e w' => e = .returned (.int .i64 ((z : Nat) : Int)) ∧ W = w') (a0 : Act) (h1 : a0.eval (.tmp 1) = .pointer (some ⟨R, 0, none⟩)) (h2 : a0.eval (.tmp 2) = .pointer (some ⟨C, 0, none⟩)) (hsz : a0.tmps.size = 15) (Q : Exit → Act → World → Prop)
    (hQ : ∀ a w, FrameIs a0 [7, 8, 9, 10, 11, 12, 13, 14] a → BoxN w C 28 (cpuCells ⟨0, 0, 0, 253, z, false, false, false, true, false, false⟩) ∧ Span C (C + 1) V w → Q .normal a w)
    (ops : Array Oper) (hops : regionOps 3 (Try.f10.body.getD .skip) = some ops) (id : Nat) : (Code.region id ops true).wp Try.prog Q a0 V := by
  obtain ⟨hbk, hn, o0, o1, o2, o3, o4, o5, o6, o7, o8, u1_0, u3_2, u4_1, u4_3, u5_4, u7_5, u7_6, u8_7⟩ := coldReg_ops ops hops
  clear hops
  refine wp_region_facts (by kernel_rfl) hbk (coldReg_I R x y z sa n cap C V a0) ?_ ?_ id a0 V ?_
  · intro i hin D a w hnd hdep hI
    obtain ⟨hf, hb, un, f0, f1, f2, f3, f4, f5, f6, f7, f8, pm⟩ := hI
    rw [hn] at hin
    have hz : a.tmps.size = 15 := hf.size.trans hsz
    have hbs := hb.size
    have hSl := hC.lt
    have rf := Below.refl w.heap.size w
    have K0 : ∀ (d : Nat) (v : Value) (w' : World), 7 ≠ d → Below w.heap.size w w' → D 0 → (a.put (some d) v).eval (.tmp 7) = ramV (.slice sa n cap) := fun d v w' hd hbw h => by have g0 := f0 h; exact ((eval_put_ne hd).trans g0)
    have K1 : ∀ (d : Nat) (v : Value) (w' : World), 8 ≠ d → Below w.heap.size w w' → D 1 → (a.put (some d) v).eval (.tmp 8) = .int .u8 (x : Int) := fun d v w' hd hbw h => by have g0 := f1 h; exact ((eval_put_ne hd).trans g0)
    have K2 : ∀ (d : Nat) (v : Value) (w' : World), 9 ≠ d → Below w.heap.size w w' → D 2 → (a.put (some d) v).eval (.tmp 9) = ramV (.slice sa n cap) := fun d v w' hd hbw h => by have g0 := f2 h; exact ((eval_put_ne hd).trans g0)
    have K3 : ∀ (d : Nat) (v : Value) (w' : World), 10 ≠ d → Below w.heap.size w w' → D 3 → (a.put (some d) v).eval (.tmp 10) = .int .u8 (y : Int) := fun d v w' hd hbw h => by have g0 := f3 h; exact ((eval_put_ne hd).trans g0)
    have K4 : ∀ (d : Nat) (v : Value) (w' : World), 11 ≠ d → Below w.heap.size w w' → D 4 → (a.put (some d) v).eval (.tmp 11) = .int .i64 ((z : Nat) : Int) := fun d v w' hd hbw h => by have g0 := f4 h; exact ((eval_put_ne hd).trans g0)
    have K5 : ∀ (d : Nat) (v : Value) (w' : World), 12 ≠ d → Below w.heap.size w w' → D 5 → (a.put (some d) v).eval (.tmp 12) = .int .u16 ((z : Nat) : Int) := fun d v w' hd hbw h => by have g0 := f5 h; exact ((eval_put_ne hd).trans g0)
    have K6 : ∀ (d : Nat) (v : Value) (w' : World), 13 ≠ d → Below w.heap.size w w' → D 6 → (a.put (some d) v).eval (.tmp 13) = .agg #[.bool false, .bool false, .bool false, .bool true, .bool false, .bool false] := fun d v w' hd hbw h => by have g0 := f6 h; exact ((eval_put_ne hd).trans g0)
    have K7 : ∀ (d : Nat) (v : Value) (w' : World), 14 ≠ d → Below w.heap.size w w' → D 7 → (a.put (some d) v).eval (.tmp 14) = cpuV ⟨0, 0, 0, 253, z, false, false, false, true, false, false⟩ := fun d v w' hd hbw h => by have g0 := f7 h; exact ((eval_put_ne hd).trans g0)
    have K8 : ∀ (w' : World), Below w.heap.size w w' → D 8 → BoxN w' C 28 (cpuCells ⟨0, 0, 0, 253, z, false, false, false, true, false, false⟩) := fun w' hbw h => by have g0 := f8 h; exact (g0.below hbw)
    obtain (rfl | rfl | rfl | rfl | rfl | rfl | rfl | rfl | rfl) : i = 0 ∨ i = 1 ∨ i = 2 ∨ i = 3 ∨ i = 4 ∨ i = 5 ∨ i = 6 ∨ i = 7 ∨ i = 8 := by omega
    · refine op_load o0 ((hf.eval (by decide)).trans h1) (loadIR (hR.span hb (by omega))) ?_
      exact ⟨hf.put (by decide) _, hb, un, fun _ => eval_put_self (by rw [hz]; decide),
        fun h => K1 _ _ _ (by decide) rf (nr h),
        fun h => K2 _ _ _ (by decide) rf (nr h),
        fun h => K3 _ _ _ (by decide) rf (nr h),
        fun h => K4 _ _ _ (by decide) rf (nr h),
        fun h => K5 _ _ _ (by decide) rf (nr h),
        fun h => K6 _ _ _ (by decide) rf (nr h),
        fun h => K7 _ _ _ (by decide) rf (nr h),
        fun h => K8 _ rf (nr h),
        pm⟩
    · have d0 := waits u1_0 hdep
      have e0_0 := f0 d0
      refine op_call o1 (by simp only [List.map_toArray, List.map_cons, List.map_nil, eval_const, e0_0]) rfl ((H1 _ hb).mono ?_)
      rintro e w' ⟨rfl, hbw⟩
      have hbz := hbw.size
      have hb' := hb.trans (Span.of_below _ _ hbw)
      refine ⟨_, rfl, ?_⟩
      exact ⟨hf.put (by decide) _, hb', un, fun h => K0 _ _ _ (by decide) hbw (nr h),
        fun _ => eval_put_self (by rw [hz]; decide),
        fun h => K2 _ _ _ (by decide) hbw (nr h),
        fun h => K3 _ _ _ (by decide) hbw (nr h),
        fun h => K4 _ _ _ (by decide) hbw (nr h),
        fun h => K5 _ _ _ (by decide) hbw (nr h),
        fun h => K6 _ _ _ (by decide) hbw (nr h),
        fun h => K7 _ _ _ (by decide) hbw (nr h),
        fun h => K8 _ hbw (nr h),
        by obtain ⟨cs, hcs, hcz⟩ := pm; exact ⟨cs, hcs.below hbw, hcz⟩⟩
    · refine op_load o2 ((hf.eval (by decide)).trans h1) (loadIR (hR.span hb (by omega))) ?_
      exact ⟨hf.put (by decide) _, hb, un, fun h => K0 _ _ _ (by decide) rf (nr h),
        fun h => K1 _ _ _ (by decide) rf (nr h),
        fun _ => eval_put_self (by rw [hz]; decide),
        fun h => K3 _ _ _ (by decide) rf (nr h),
        fun h => K4 _ _ _ (by decide) rf (nr h),
        fun h => K5 _ _ _ (by decide) rf (nr h),
        fun h => K6 _ _ _ (by decide) rf (nr h),
        fun h => K7 _ _ _ (by decide) rf (nr h),
        fun h => K8 _ rf (nr h),
        pm⟩
    · have d2 := waits u3_2 hdep
      have e2_0 := f2 d2
      refine op_call o3 (by simp only [List.map_toArray, List.map_cons, List.map_nil, eval_const, e2_0]) rfl ((H2 _ hb).mono ?_)
      rintro e w' ⟨rfl, hbw⟩
      have hbz := hbw.size
      have hb' := hb.trans (Span.of_below _ _ hbw)
      refine ⟨_, rfl, ?_⟩
      exact ⟨hf.put (by decide) _, hb', un, fun h => K0 _ _ _ (by decide) hbw (nr h),
        fun h => K1 _ _ _ (by decide) hbw (nr h),
        fun h => K2 _ _ _ (by decide) hbw (nr h),
        fun _ => eval_put_self (by rw [hz]; decide),
        fun h => K4 _ _ _ (by decide) hbw (nr h),
        fun h => K5 _ _ _ (by decide) hbw (nr h),
        fun h => K6 _ _ _ (by decide) hbw (nr h),
        fun h => K7 _ _ _ (by decide) hbw (nr h),
        fun h => K8 _ hbw (nr h),
        by obtain ⟨cs, hcs, hcz⟩ := pm; exact ⟨cs, hcs.below hbw, hcz⟩⟩
    · have d1 := waits u4_1 hdep
      have e1_0 := f1 d1
      have d3 := waits u4_3 hdep
      have e3_0 := f3 d3
      refine op_call o4 (by simp only [List.map_toArray, List.map_cons, List.map_nil, eval_const, e1_0, e3_0]) rfl ((H3 _).mono ?_)
      rintro e w' ⟨rfl, rfl⟩
      have hbw := Below.refl w.heap.size w
      have hbz := hbw.size
      have hb' := hb.trans (Span.of_below _ _ hbw)
      refine ⟨_, rfl, ?_⟩
      exact ⟨hf.put (by decide) _, hb', un, fun h => K0 _ _ _ (by decide) hbw (nr h),
        fun h => K1 _ _ _ (by decide) hbw (nr h),
        fun h => K2 _ _ _ (by decide) hbw (nr h),
        fun h => K3 _ _ _ (by decide) hbw (nr h),
        fun _ => eval_put_self (by rw [hz]; decide),
        fun h => K5 _ _ _ (by decide) hbw (nr h),
        fun h => K6 _ _ _ (by decide) hbw (nr h),
        fun h => K7 _ _ _ (by decide) hbw (nr h),
        fun h => K8 _ hbw (nr h),
        by obtain ⟨cs, hcs, hcz⟩ := pm; exact ⟨cs, hcs.below hbw, hcz⟩⟩
    · have d4 := waits u5_4 hdep
      have e4_0 := f4 d4
      refine wpOp_val (v := .int .u16 ((z : Nat) : Int)) (w' := w) o5 (fun o ho => by unfold execOp; rw [ho]; dsimp only; simp only [List.map_toArray, List.map_cons, List.map_nil, e4_0, eval_const]; simp [go_sem, w16nat hz1]) ?_
      exact ⟨hf.put (by decide) _, hb, un, fun h => K0 _ _ _ (by decide) rf (nr h),
        fun h => K1 _ _ _ (by decide) rf (nr h),
        fun h => K2 _ _ _ (by decide) rf (nr h),
        fun h => K3 _ _ _ (by decide) rf (nr h),
        fun h => K4 _ _ _ (by decide) rf (nr h),
        fun _ => eval_put_self (by rw [hz]; decide),
        fun h => K6 _ _ _ (by decide) rf (nr h),
        fun h => K7 _ _ _ (by decide) rf (nr h),
        fun h => K8 _ rf (nr h),
        pm⟩
    · refine wpOp_val (v := .agg #[.bool false, .bool false, .bool false, .bool true, .bool false, .bool false]) (w' := w) o6 (fun o ho => by unfold execOp; rw [ho]; dsimp only; simp only [List.map_toArray, List.map_cons, List.map_nil, eval_const]; simp [go_sem]) ?_
      exact ⟨hf.put (by decide) _, hb, un, fun h => K0 _ _ _ (by decide) rf (nr h),
        fun h => K1 _ _ _ (by decide) rf (nr h),
        fun h => K2 _ _ _ (by decide) rf (nr h),
        fun h => K3 _ _ _ (by decide) rf (nr h),
        fun h => K4 _ _ _ (by decide) rf (nr h),
        fun h => K5 _ _ _ (by decide) rf (nr h),
        fun _ => eval_put_self (by rw [hz]; decide),
        fun h => K7 _ _ _ (by decide) rf (nr h),
        fun h => K8 _ rf (nr h),
        pm⟩
    · have d5 := waits u7_5 hdep
      have e5_0 := f5 d5
      have d6 := waits u7_6 hdep
      have e6_0 := f6 d6
      refine wpOp_val (v := cpuV ⟨0, 0, 0, 253, z, false, false, false, true, false, false⟩) (w' := w) o7 (fun o ho => by unfold execOp; rw [ho]; dsimp only; simp only [List.map_toArray, List.map_cons, List.map_nil, e5_0, e6_0, eval_const]; simp [go_sem, cpuCells]) ?_
      exact ⟨hf.put (by decide) _, hb, un, fun h => K0 _ _ _ (by decide) rf (nr h),
        fun h => K1 _ _ _ (by decide) rf (nr h),
        fun h => K2 _ _ _ (by decide) rf (nr h),
        fun h => K3 _ _ _ (by decide) rf (nr h),
        fun h => K4 _ _ _ (by decide) rf (nr h),
        fun h => K5 _ _ _ (by decide) rf (nr h),
        fun h => K6 _ _ _ (by decide) rf (nr h),
        fun _ => eval_put_self (by rw [hz]; decide),
        fun h => K8 _ rf (nr h),
        pm⟩
    · have d7 := waits u8_7 hdep
      have e7_0 := f7 d7
      obtain ⟨cs, hcs, hcz⟩ := pm
      obtain ⟨w', hst, hnew, hsp⟩ := storeIC hcs hcz
      refine op_store o8 ((hf.eval (by decide)).trans h2) e7_0 hst ?_
      have hb' := hb.trans hsp
      exact ⟨hf, hb', un, fun h => by have h' := (nr h); have g0 := f0 h'; exact g0,
        fun h => by have h' := (nr h); have g0 := f1 h'; exact g0,
        fun h => by have h' := (nr h); have g0 := f2 h'; exact g0,
        fun h => by have h' := (nr h); have g0 := f3 h'; exact g0,
        fun h => by have h' := (nr h); have g0 := f4 h'; exact g0,
        fun h => by have h' := (nr h); have g0 := f5 h'; exact g0,
        fun h => by have h' := (nr h); have g0 := f6 h'; exact g0,
        fun h => by have h' := (nr h); have g0 := f7 h'; exact g0,
        fun _ => hnew,
        ⟨_, hnew, rfl⟩⟩
  · intro D a w hD hI
    obtain ⟨hf, hb, un, f0, f1, f2, f3, f4, f5, f6, f7, f8, pm⟩ := hI
    rw [hn] at hD
    have e0_0 := f0 (hD 0 (by decide))
    have e1_0 := f1 (hD 1 (by decide))
    have e2_0 := f2 (hD 2 (by decide))
    have e3_0 := f3 (hD 3 (by decide))
    have e4_0 := f4 (hD 4 (by decide))
    have e5_0 := f5 (hD 5 (by decide))
    have e6_0 := f6 (hD 6 (by decide))
    have e7_0 := f7 (hD 7 (by decide))
    have e8_0 := f8 (hD 8 (by decide))
    exact hQ a w hf ⟨e8_0, hb⟩
  · exact ⟨FrameIs.refl _ _, (Span.refl _ _ _).drew, (), fun h => False.elim h, fun h => False.elim h, fun h => False.elim h, fun h => False.elim h, fun h => False.elim h, fun h => False.elim h, fun h => False.elim h, fun h => False.elim h, fun h => False.elim h, ⟨_, hC, rfl⟩⟩

end Go.Proofs.Ytckfdbjjjgfbfaa
