/-
  FnUnits' last region, which leaves its order open.
-/
import Derived.Test.YtckfdbjjjgfbfaaURowG
import Derived.Test.YtckfdbjjjgfbfaaURegRun
import Derived.Test.YtckfdbjjjgfbfaaUBoxPart
namespace Go.Proofs.Ytckfdbjjjgfbfaa
set_option linter.unusedVariables false
set_option linter.unusedSimpArgs false
open Go.RowKit

theorem wrap1 {u n : Nat} (h : u < n) (hn : n ≤ 1048576) : IntKind.i64.wrap ((u : Int) + 1) = (u : Int) + 1 := by simp only [IntKind.wrap, IntKind.bits, IntKind.signed]; simp; omega

theorem unitsRegA_ops (ops : Array Oper) (h : regionOps 9 (Try.f3.body.getD .skip) = some ops) : backward ops = true ∧ ops.size = 28 ∧ IsOp ops 0 (some 45) (.move (.tmp 5)) ∧ IsOp ops 1 (some 46) (.binOp .add 3 (.tmp 45) (.const (.int .i64 1)) 3) ∧ IsOp ops 2 (some 47) (.fieldAddr 35 (.tmp 3) 3) ∧ IsOp ops 3 (some 48) (.load 32 (.tmp 47)) ∧ IsOp ops 4 (some 49) (.call ⟨.builtin .len, #[.tmp 48], #[32]⟩) ∧ IsOp ops 5 (some 50) (.binOp .eql 3 (.tmp 46) (.tmp 49) 3) ∧ IsOp ops 6 (some 51) (.move (.tmp 50)) ∧ IsOpB ops 7 (some 52) (.fieldAddr 35 (.tmp 3) 3) 6 false ∧ IsOpB ops 8 (some 53) (.load 32 (.tmp 52)) 6 false ∧ IsOpB ops 9 (some 54) (.move (.tmp 5)) 6 false ∧ IsOpB ops 10 (some 55) (.binOp .add 3 (.tmp 54) (.const (.int .i64 1)) 3) 6 false ∧ IsOpB ops 11 (some 56) (.indexAddr 32 (.tmp 53) (.tmp 55)) 6 false ∧ IsOpB ops 12 (some 57) (.load 3 (.tmp 56)) 6 false ∧ IsOpB ops 13 (some 58) (.move (.tmp 4)) 6 false ∧ IsOpB ops 14 (some 59) (.binOp .gtr 3 (.tmp 57) (.tmp 58) 3) 6 false ∧ IsOp ops 15 (some 60) (.pick (.tmp 51) (.const (.bool true)) (.tmp 59)) ∧ IsOp ops 16 (some 61) (.move (.tmp 60)) ∧ IsOpB ops 17 (some 62) (.load 35 (.tmp 3)) 16 true ∧ IsOpB ops 18 (some 63) (.fieldAddr 35 (.tmp 3) 3) 16 true ∧ IsOpB ops 19 (some 64) (.load 32 (.tmp 63)) 16 true ∧ IsOpB ops 20 (some 65) (.move (.tmp 5)) 16 true ∧ IsOpB ops 21 (some 66) (.indexAddr 32 (.tmp 64) (.tmp 65)) 16 true ∧ IsOpB ops 22 (some 67) (.load 3 (.tmp 66)) 16 true ∧ IsOpB ops 23 (some 68) (.call ⟨.value (.func 8), #[.tmp 62, .tmp 67], #[35, 3]⟩) 16 true ∧ IsOpB ops 24 (some 69) (.move (.tmp 5)) 16 true ∧ IsOpB ops 25 (some 70) (.binOp .eql 3 (.tmp 68) (.tmp 69) 3) 16 true ∧ IsOp ops 26 (some 71) (.pick (.tmp 61) (.tmp 70) (.const (.bool false))) ∧ IsOp ops 27 (some 2) (.assign (.tmp 71)) ∧ Waits ops 1 0 ∧ Waits ops 3 2 ∧ Waits ops 4 3 ∧ Waits ops 5 1 ∧ Waits ops 5 4 ∧ Waits ops 6 5 ∧ Waits ops 7 6 ∧ Waits ops 8 6 ∧ Waits ops 9 6 ∧ Waits ops 10 6 ∧ Waits ops 11 6 ∧ Waits ops 12 6 ∧ Waits ops 13 6 ∧ Waits ops 14 6 ∧ Waits ops 15 6 ∧ Waits ops 16 15 ∧ Waits ops 17 16 ∧ Waits ops 18 16 ∧ Waits ops 19 18 ∧ Waits ops 19 16 ∧ Waits ops 20 16 ∧ Waits ops 21 19 ∧ Waits ops 21 20 ∧ Waits ops 21 16 ∧ Waits ops 22 21 ∧ Waits ops 22 16 ∧ Waits ops 23 17 ∧ Waits ops 23 22 ∧ Waits ops 23 16 ∧ Waits ops 24 16 ∧ Waits ops 25 23 ∧ Waits ops 25 24 ∧ Waits ops 25 16 ∧ Waits ops 26 16 ∧ Waits ops 26 25 ∧ Waits ops 27 26 := by
  obtain rfl : ops = (regionOps 9 (Try.f3.body.getD .skip)).getD #[] := by rw [h]; rfl
  exact ⟨by kernel_rfl, by kernel_rfl, by unfold IsOp; kernel_rfl, by unfold IsOp; kernel_rfl, by unfold IsOp; kernel_rfl, by unfold IsOp; kernel_rfl, by unfold IsOp; kernel_rfl, by unfold IsOp; kernel_rfl, by unfold IsOp; kernel_rfl, by unfold IsOpB; kernel_rfl, by unfold IsOpB; kernel_rfl, by unfold IsOpB; kernel_rfl, by unfold IsOpB; kernel_rfl, by unfold IsOpB; kernel_rfl, by unfold IsOpB; kernel_rfl, by unfold IsOpB; kernel_rfl, by unfold IsOpB; kernel_rfl, by unfold IsOp; kernel_rfl, by unfold IsOp; kernel_rfl, by unfold IsOpB; kernel_rfl, by unfold IsOpB; kernel_rfl, by unfold IsOpB; kernel_rfl, by unfold IsOpB; kernel_rfl, by unfold IsOpB; kernel_rfl, by unfold IsOpB; kernel_rfl, by unfold IsOpB; kernel_rfl, by unfold IsOpB; kernel_rfl, by unfold IsOpB; kernel_rfl, by unfold IsOp; kernel_rfl, by unfold IsOp; kernel_rfl, by unfold Waits; kernel_rfl, by unfold Waits; kernel_rfl, by unfold Waits; kernel_rfl, by unfold Waits; kernel_rfl, by unfold Waits; kernel_rfl, by unfold Waits; kernel_rfl, by unfold Waits; kernel_rfl, by unfold Waits; kernel_rfl, by unfold Waits; kernel_rfl, by unfold Waits; kernel_rfl, by unfold Waits; kernel_rfl, by unfold Waits; kernel_rfl, by unfold Waits; kernel_rfl, by unfold Waits; kernel_rfl, by unfold Waits; kernel_rfl, by unfold Waits; kernel_rfl, by unfold Waits; kernel_rfl, by unfold Waits; kernel_rfl, by unfold Waits; kernel_rfl, by unfold Waits; kernel_rfl, by unfold Waits; kernel_rfl, by unfold Waits; kernel_rfl, by unfold Waits; kernel_rfl, by unfold Waits; kernel_rfl, by unfold Waits; kernel_rfl, by unfold Waits; kernel_rfl, by unfold Waits; kernel_rfl, by unfold Waits; kernel_rfl, by unfold Waits; kernel_rfl, by unfold Waits; kernel_rfl, by unfold Waits; kernel_rfl, by unfold Waits; kernel_rfl, by unfold Waits; kernel_rfl, by unfold Waits; kernel_rfl, by unfold Waits; kernel_rfl, by unfold Waits; kernel_rfl⟩

abbrev unitsRegA_I (u n : Nat) (ii X : Int) (P g og cap : Nat) (c : CpuN) (v1 v2 v4 : Value) (j : Bool) (V : World) (a0 : Act) (D : Nat → Prop) (a : Act) (w : World) : Prop :=
  FrameIs a0 [2, 45, 46, 47, 48, 49, 50, 51, 52, 53, 54, 55, 56, 57, 58, 59, 60, 61, 62, 63, 64, 65, 66, 67, 68, 69, 70, 71] a ∧ Below V.heap.size V w ∧ ∃ (un : Unit), (D 0 → a.eval (.tmp 45) = .int .i64 (u : Int)) ∧ (D 1 → a.eval (.tmp 46) = .int .i64 ((u : Int) + 1)) ∧ (D 2 → a.eval (.tmp 47) = .pointer (some ⟨P, 13, none⟩)) ∧ (D 3 → a.eval (.tmp 48) = .slice (some ⟨g, og, none⟩) n cap) ∧ (D 4 → a.eval (.tmp 49) = .int .i64 (n : Int)) ∧ (D 5 → a.eval (.tmp 50) = .bool true) ∧ (D 6 → a.eval (.tmp 51) = .bool true) ∧ (D 7 → True) ∧ (D 8 → True) ∧ (D 9 → True) ∧ (D 10 → True) ∧ (D 11 → True) ∧ (D 12 → True) ∧ (D 13 → True) ∧ (D 14 → True) ∧ (D 15 → a.eval (.tmp 60) = .bool true) ∧ (D 16 → a.eval (.tmp 61) = .bool true) ∧ (D 17 → a.eval (.tmp 62) = shotV c v1 v2 (.slice (some ⟨g, og, none⟩) n cap) v4 j) ∧ (D 18 → a.eval (.tmp 63) = .pointer (some ⟨P, 13, none⟩)) ∧ (D 19 → a.eval (.tmp 64) = .slice (some ⟨g, og, none⟩) n cap) ∧ (D 20 → a.eval (.tmp 65) = .int .i64 (u : Int)) ∧ (D 21 → a.eval (.tmp 66) = .pointer (some ⟨g, og + u, none⟩)) ∧ (D 22 → a.eval (.tmp 67) = .int .i64 X) ∧ (D 23 → a.eval (.tmp 68) = .int .i64 (u : Int)) ∧ (D 24 → a.eval (.tmp 69) = .int .i64 (u : Int)) ∧ (D 25 → a.eval (.tmp 70) = .bool true) ∧ (D 26 → a.eval (.tmp 71) = .bool true) ∧ (D 27 → a.eval (.tmp 2) = .bool true)

set_option maxRecDepth 100000 in
set_option maxHeartbeats 4000000 in
theorem unitsRegA (u n : Nat) (ii X : Int) (P g og cap : Nat) (c : CpuN) (v1 v2 v4 : Value) (j : Bool) (V : World) (hS : BoxN V P 35 (shotCells c v1 v2 (.slice (some ⟨g, og, none⟩) n cap) v4 j)) (hg : g < V.heap.size) (hX : V.cell? ⟨g, og + u, none⟩ = some (.int .i64 X)) (hun : u < n) (hnn : n ≤ 1048576) (hun1 : u + 1 = n) (H : ∀ W : World, Below V.heap.size V W → Calls Try.prog 8 #[shotV c v1 v2 (.slice (some ⟨g, og, none⟩) n cap) v4 j, .int .i64 X] W fun e w' => e = .returned (.int .i64 (u : Int)) ∧ Below W.heap.size W w') (a0 : Act) (h3 : a0.eval (.tmp 3) = .pointer (some ⟨P, 0, none⟩)) (h4 : a0.eval (.tmp 4) = .int .i64 ii) (h5 : a0.eval (.tmp 5) = .int .i64 (u : Int)) (hsz : a0.tmps.size = 72) (Q : Exit → Act → World → Prop)
    (hQ : ∀ a w, FrameIs a0 [2, 45, 46, 47, 48, 49, 50, 51, 52, 53, 54, 55, 56, 57, 58, 59, 60, 61, 62, 63, 64, 65, 66, 67, 68, 69, 70, 71] a → a.eval (.tmp 2) = .bool true ∧ Below V.heap.size V w → Q .normal a w)
    (ops : Array Oper) (hops : regionOps 9 (Try.f3.body.getD .skip) = some ops) (id : Nat) : (Code.region id ops true).wp Try.prog Q a0 V := by
  obtain ⟨hbk, hn, o0, o1, o2, o3, o4, o5, o6, o7, o8, o9, o10, o11, o12, o13, o14, o15, o16, o17, o18, o19, o20, o21, o22, o23, o24, o25, o26, o27, u1_0, u3_2, u4_3, u5_1, u5_4, u6_5, u7_6, u8_6, u9_6, u10_6, u11_6, u12_6, u13_6, u14_6, u15_6, u16_15, u17_16, u18_16, u19_18, u19_16, u20_16, u21_19, u21_20, u21_16, u22_21, u22_16, u23_17, u23_22, u23_16, u24_16, u25_23, u25_24, u25_16, u26_16, u26_25, u27_26⟩ := unitsRegA_ops ops hops
  clear hops
  have hix : ¬ n ≤ u := by omega
  have hq : (u : Int) + 1 = (n : Int) := by omega
  refine wp_region_facts (by kernel_rfl) hbk (unitsRegA_I u n ii X P g og cap c v1 v2 v4 j V a0) ?_ ?_ id a0 V ?_
  · intro i hin D a w hnd hdep hI
    obtain ⟨hf, hb, un, f0, f1, f2, f3, f4, f5, f6, f7, f8, f9, f10, f11, f12, f13, f14, f15, f16, f17, f18, f19, f20, f21, f22, f23, f24, f25, f26, f27⟩ := hI
    rw [hn] at hin
    have hz : a.tmps.size = 72 := hf.size.trans hsz
    have hbs := hb.size
    have rf := Below.refl w.heap.size w
    have K0 : ∀ {d : Nat} {v : Value} {w' : World}, Below w.heap.size w w' → D 0 → (hd : 45 ≠ d := by decide) → (a.put (some d) v).eval (.tmp 45) = .int .i64 (u : Int) := fun {d v} {w'} hbw h hd => by have g0 := f0 h; exact ((eval_put_ne hd).trans g0)
    have K1 : ∀ {d : Nat} {v : Value} {w' : World}, Below w.heap.size w w' → D 1 → (hd : 46 ≠ d := by decide) → (a.put (some d) v).eval (.tmp 46) = .int .i64 ((u : Int) + 1) := fun {d v} {w'} hbw h hd => by have g0 := f1 h; exact ((eval_put_ne hd).trans g0)
    have K2 : ∀ {d : Nat} {v : Value} {w' : World}, Below w.heap.size w w' → D 2 → (hd : 47 ≠ d := by decide) → (a.put (some d) v).eval (.tmp 47) = .pointer (some ⟨P, 13, none⟩) := fun {d v} {w'} hbw h hd => by have g0 := f2 h; exact ((eval_put_ne hd).trans g0)
    have K3 : ∀ {d : Nat} {v : Value} {w' : World}, Below w.heap.size w w' → D 3 → (hd : 48 ≠ d := by decide) → (a.put (some d) v).eval (.tmp 48) = .slice (some ⟨g, og, none⟩) n cap := fun {d v} {w'} hbw h hd => by have g0 := f3 h; exact ((eval_put_ne hd).trans g0)
    have K4 : ∀ {d : Nat} {v : Value} {w' : World}, Below w.heap.size w w' → D 4 → (hd : 49 ≠ d := by decide) → (a.put (some d) v).eval (.tmp 49) = .int .i64 (n : Int) := fun {d v} {w'} hbw h hd => by have g0 := f4 h; exact ((eval_put_ne hd).trans g0)
    have K5 : ∀ {d : Nat} {v : Value} {w' : World}, Below w.heap.size w w' → D 5 → (hd : 50 ≠ d := by decide) → (a.put (some d) v).eval (.tmp 50) = .bool true := fun {d v} {w'} hbw h hd => by have g0 := f5 h; exact ((eval_put_ne hd).trans g0)
    have K6 : ∀ {d : Nat} {v : Value} {w' : World}, Below w.heap.size w w' → D 6 → (hd : 51 ≠ d := by decide) → (a.put (some d) v).eval (.tmp 51) = .bool true := fun {d v} {w'} hbw h hd => by have g0 := f6 h; exact ((eval_put_ne hd).trans g0)
    have K15 : ∀ {d : Nat} {v : Value} {w' : World}, Below w.heap.size w w' → D 15 → (hd : 60 ≠ d := by decide) → (a.put (some d) v).eval (.tmp 60) = .bool true := fun {d v} {w'} hbw h hd => by have g0 := f15 h; exact ((eval_put_ne hd).trans g0)
    have K16 : ∀ {d : Nat} {v : Value} {w' : World}, Below w.heap.size w w' → D 16 → (hd : 61 ≠ d := by decide) → (a.put (some d) v).eval (.tmp 61) = .bool true := fun {d v} {w'} hbw h hd => by have g0 := f16 h; exact ((eval_put_ne hd).trans g0)
    have K17 : ∀ {d : Nat} {v : Value} {w' : World}, Below w.heap.size w w' → D 17 → (hd : 62 ≠ d := by decide) → (a.put (some d) v).eval (.tmp 62) = shotV c v1 v2 (.slice (some ⟨g, og, none⟩) n cap) v4 j := fun {d v} {w'} hbw h hd => by have g0 := f17 h; exact ((eval_put_ne hd).trans g0)
    have K18 : ∀ {d : Nat} {v : Value} {w' : World}, Below w.heap.size w w' → D 18 → (hd : 63 ≠ d := by decide) → (a.put (some d) v).eval (.tmp 63) = .pointer (some ⟨P, 13, none⟩) := fun {d v} {w'} hbw h hd => by have g0 := f18 h; exact ((eval_put_ne hd).trans g0)
    have K19 : ∀ {d : Nat} {v : Value} {w' : World}, Below w.heap.size w w' → D 19 → (hd : 64 ≠ d := by decide) → (a.put (some d) v).eval (.tmp 64) = .slice (some ⟨g, og, none⟩) n cap := fun {d v} {w'} hbw h hd => by have g0 := f19 h; exact ((eval_put_ne hd).trans g0)
    have K20 : ∀ {d : Nat} {v : Value} {w' : World}, Below w.heap.size w w' → D 20 → (hd : 65 ≠ d := by decide) → (a.put (some d) v).eval (.tmp 65) = .int .i64 (u : Int) := fun {d v} {w'} hbw h hd => by have g0 := f20 h; exact ((eval_put_ne hd).trans g0)
    have K21 : ∀ {d : Nat} {v : Value} {w' : World}, Below w.heap.size w w' → D 21 → (hd : 66 ≠ d := by decide) → (a.put (some d) v).eval (.tmp 66) = .pointer (some ⟨g, og + u, none⟩) := fun {d v} {w'} hbw h hd => by have g0 := f21 h; exact ((eval_put_ne hd).trans g0)
    have K22 : ∀ {d : Nat} {v : Value} {w' : World}, Below w.heap.size w w' → D 22 → (hd : 67 ≠ d := by decide) → (a.put (some d) v).eval (.tmp 67) = .int .i64 X := fun {d v} {w'} hbw h hd => by have g0 := f22 h; exact ((eval_put_ne hd).trans g0)
    have K23 : ∀ {d : Nat} {v : Value} {w' : World}, Below w.heap.size w w' → D 23 → (hd : 68 ≠ d := by decide) → (a.put (some d) v).eval (.tmp 68) = .int .i64 (u : Int) := fun {d v} {w'} hbw h hd => by have g0 := f23 h; exact ((eval_put_ne hd).trans g0)
    have K24 : ∀ {d : Nat} {v : Value} {w' : World}, Below w.heap.size w w' → D 24 → (hd : 69 ≠ d := by decide) → (a.put (some d) v).eval (.tmp 69) = .int .i64 (u : Int) := fun {d v} {w'} hbw h hd => by have g0 := f24 h; exact ((eval_put_ne hd).trans g0)
    have K25 : ∀ {d : Nat} {v : Value} {w' : World}, Below w.heap.size w w' → D 25 → (hd : 70 ≠ d := by decide) → (a.put (some d) v).eval (.tmp 70) = .bool true := fun {d v} {w'} hbw h hd => by have g0 := f25 h; exact ((eval_put_ne hd).trans g0)
    have K26 : ∀ {d : Nat} {v : Value} {w' : World}, Below w.heap.size w w' → D 26 → (hd : 71 ≠ d := by decide) → (a.put (some d) v).eval (.tmp 71) = .bool true := fun {d v} {w'} hbw h hd => by have g0 := f26 h; exact ((eval_put_ne hd).trans g0)
    have K27 : ∀ {d : Nat} {v : Value} {w' : World}, Below w.heap.size w w' → D 27 → (hd : 2 ≠ d := by decide) → (a.put (some d) v).eval (.tmp 2) = .bool true := fun {d v} {w'} hbw h hd => by have g0 := f27 h; exact ((eval_put_ne hd).trans g0)
    obtain (rfl | rfl | rfl | rfl | rfl | rfl | rfl | rfl | rfl | rfl | rfl | rfl | rfl | rfl | rfl | rfl | rfl | rfl | rfl | rfl | rfl | rfl | rfl | rfl | rfl | rfl | rfl | rfl) : i = 0 ∨ i = 1 ∨ i = 2 ∨ i = 3 ∨ i = 4 ∨ i = 5 ∨ i = 6 ∨ i = 7 ∨ i = 8 ∨ i = 9 ∨ i = 10 ∨ i = 11 ∨ i = 12 ∨ i = 13 ∨ i = 14 ∨ i = 15 ∨ i = 16 ∨ i = 17 ∨ i = 18 ∨ i = 19 ∨ i = 20 ∨ i = 21 ∨ i = 22 ∨ i = 23 ∨ i = 24 ∨ i = 25 ∨ i = 26 ∨ i = 27 := by omega
    · refine op_move o0 ((hf.eval (by decide)).trans h5) ?_
      exact ⟨hf.put (by decide) _, hb, un, fun _ => eval_put_self (by rw [hz]; decide), fun h => K1 rf (nr h), fun h => K2 rf (nr h), fun h => K3 rf (nr h), fun h => K4 rf (nr h), fun h => K5 rf (nr h), fun h => K6 rf (nr h), fun _ => trivial, fun _ => trivial, fun _ => trivial, fun _ => trivial, fun _ => trivial, fun _ => trivial, fun _ => trivial, fun _ => trivial, fun h => K15 rf (nr h), fun h => K16 rf (nr h), fun h => K17 rf (nr h), fun h => K18 rf (nr h), fun h => K19 rf (nr h), fun h => K20 rf (nr h), fun h => K21 rf (nr h), fun h => K22 rf (nr h), fun h => K23 rf (nr h), fun h => K24 rf (nr h), fun h => K25 rf (nr h), fun h => K26 rf (nr h), fun h => K27 rf (nr h)⟩
    · have d0 := waits u1_0 hdep
      have e0_0 := f0 d0
      refine wpOp_val (v := .int .i64 ((u : Int) + 1)) (w' := w) o1 (fun o ho => by unfold execOp; rw [ho]; dsimp only; simp only [List.map_toArray, List.map_cons, List.map_nil, e0_0, eval_const]; simp [go_sem, wrap1 hun hnn]) ?_
      exact ⟨hf.put (by decide) _, hb, un, fun h => K0 rf (nr h), fun _ => eval_put_self (by rw [hz]; decide), fun h => K2 rf (nr h), fun h => K3 rf (nr h), fun h => K4 rf (nr h), fun h => K5 rf (nr h), fun h => K6 rf (nr h), fun _ => trivial, fun _ => trivial, fun _ => trivial, fun _ => trivial, fun _ => trivial, fun _ => trivial, fun _ => trivial, fun _ => trivial, fun h => K15 rf (nr h), fun h => K16 rf (nr h), fun h => K17 rf (nr h), fun h => K18 rf (nr h), fun h => K19 rf (nr h), fun h => K20 rf (nr h), fun h => K21 rf (nr h), fun h => K22 rf (nr h), fun h => K23 rf (nr h), fun h => K24 rf (nr h), fun h => K25 rf (nr h), fun h => K26 rf (nr h), fun h => K27 rf (nr h)⟩
    · refine wpOp_val (v := .pointer (some ⟨P, 13, none⟩)) (w' := w) o2 (fun o ho => by unfold execOp; rw [ho]; dsimp only; rw [(hf.eval (by decide)).trans h3]; simp [go_sem]) ?_
      exact ⟨hf.put (by decide) _, hb, un, fun h => K0 rf (nr h), fun h => K1 rf (nr h), fun _ => eval_put_self (by rw [hz]; decide), fun h => K3 rf (nr h), fun h => K4 rf (nr h), fun h => K5 rf (nr h), fun h => K6 rf (nr h), fun _ => trivial, fun _ => trivial, fun _ => trivial, fun _ => trivial, fun _ => trivial, fun _ => trivial, fun _ => trivial, fun _ => trivial, fun h => K15 rf (nr h), fun h => K16 rf (nr h), fun h => K17 rf (nr h), fun h => K18 rf (nr h), fun h => K19 rf (nr h), fun h => K20 rf (nr h), fun h => K21 rf (nr h), fun h => K22 rf (nr h), fun h => K23 rf (nr h), fun h => K24 rf (nr h), fun h => K25 rf (nr h), fun h => K26 rf (nr h), fun h => K27 rf (nr h)⟩
    · have d2 := waits u3_2 hdep
      have e2_0 := f2 d2
      refine op_load (v := .slice (some ⟨g, og, none⟩) n cap) o3 e2_0 (by have hc := (hS.below hb).cell 13 (.slice (some ⟨g, og, none⟩) n cap) rfl; simp [go_sem, hc]) ?_
      exact ⟨hf.put (by decide) _, hb, un, fun h => K0 rf (nr h), fun h => K1 rf (nr h), fun h => K2 rf (nr h), fun _ => eval_put_self (by rw [hz]; decide), fun h => K4 rf (nr h), fun h => K5 rf (nr h), fun h => K6 rf (nr h), fun _ => trivial, fun _ => trivial, fun _ => trivial, fun _ => trivial, fun _ => trivial, fun _ => trivial, fun _ => trivial, fun _ => trivial, fun h => K15 rf (nr h), fun h => K16 rf (nr h), fun h => K17 rf (nr h), fun h => K18 rf (nr h), fun h => K19 rf (nr h), fun h => K20 rf (nr h), fun h => K21 rf (nr h), fun h => K22 rf (nr h), fun h => K23 rf (nr h), fun h => K24 rf (nr h), fun h => K25 rf (nr h), fun h => K26 rf (nr h), fun h => K27 rf (nr h)⟩
    · have d3 := waits u4_3 hdep
      have e3_0 := f3 d3
      refine wpOp_val (v := .int .i64 (n : Int)) (w' := w) o4 (fun o ho => by unfold execOp; rw [ho]; simp only [resolve, invoke, builtin, List.map_toArray, List.map_cons, List.map_nil, e3_0]; simp [go_sem]) ?_
      exact ⟨hf.put (by decide) _, hb, un, fun h => K0 rf (nr h), fun h => K1 rf (nr h), fun h => K2 rf (nr h), fun h => K3 rf (nr h), fun _ => eval_put_self (by rw [hz]; decide), fun h => K5 rf (nr h), fun h => K6 rf (nr h), fun _ => trivial, fun _ => trivial, fun _ => trivial, fun _ => trivial, fun _ => trivial, fun _ => trivial, fun _ => trivial, fun _ => trivial, fun h => K15 rf (nr h), fun h => K16 rf (nr h), fun h => K17 rf (nr h), fun h => K18 rf (nr h), fun h => K19 rf (nr h), fun h => K20 rf (nr h), fun h => K21 rf (nr h), fun h => K22 rf (nr h), fun h => K23 rf (nr h), fun h => K24 rf (nr h), fun h => K25 rf (nr h), fun h => K26 rf (nr h), fun h => K27 rf (nr h)⟩
    · have d1 := waits u5_1 hdep
      have e1_0 := f1 d1
      have d4 := waits u5_4 hdep
      have e4_0 := f4 d4
      refine wpOp_val (v := .bool true) (w' := w) o5 (fun o ho => by unfold execOp; rw [ho]; dsimp only; simp only [List.map_toArray, List.map_cons, List.map_nil, e1_0, e4_0, eval_const]; simp [go_sem, hq]) ?_
      exact ⟨hf.put (by decide) _, hb, un, fun h => K0 rf (nr h), fun h => K1 rf (nr h), fun h => K2 rf (nr h), fun h => K3 rf (nr h), fun h => K4 rf (nr h), fun _ => eval_put_self (by rw [hz]; decide), fun h => K6 rf (nr h), fun _ => trivial, fun _ => trivial, fun _ => trivial, fun _ => trivial, fun _ => trivial, fun _ => trivial, fun _ => trivial, fun _ => trivial, fun h => K15 rf (nr h), fun h => K16 rf (nr h), fun h => K17 rf (nr h), fun h => K18 rf (nr h), fun h => K19 rf (nr h), fun h => K20 rf (nr h), fun h => K21 rf (nr h), fun h => K22 rf (nr h), fun h => K23 rf (nr h), fun h => K24 rf (nr h), fun h => K25 rf (nr h), fun h => K26 rf (nr h), fun h => K27 rf (nr h)⟩
    · have d5 := waits u6_5 hdep
      have e5_0 := f5 d5
      refine op_move o6 e5_0 ?_
      exact ⟨hf.put (by decide) _, hb, un, fun h => K0 rf (nr h), fun h => K1 rf (nr h), fun h => K2 rf (nr h), fun h => K3 rf (nr h), fun h => K4 rf (nr h), fun h => K5 rf (nr h), fun _ => eval_put_self (by rw [hz]; decide), fun _ => trivial, fun _ => trivial, fun _ => trivial, fun _ => trivial, fun _ => trivial, fun _ => trivial, fun _ => trivial, fun _ => trivial, fun h => K15 rf (nr h), fun h => K16 rf (nr h), fun h => K17 rf (nr h), fun h => K18 rf (nr h), fun h => K19 rf (nr h), fun h => K20 rf (nr h), fun h => K21 rf (nr h), fun h => K22 rf (nr h), fun h => K23 rf (nr h), fun h => K24 rf (nr h), fun h => K25 rf (nr h), fun h => K26 rf (nr h), fun h => K27 rf (nr h)⟩
    · have d6 := waits u7_6 hdep
      have e6_0 := f6 d6
      refine o7.skip o6 e6_0 ?_
      exact ⟨hf.put (by decide) _, hb, un, fun h => K0 rf (nr h), fun h => K1 rf (nr h), fun h => K2 rf (nr h), fun h => K3 rf (nr h), fun h => K4 rf (nr h), fun h => K5 rf (nr h), fun h => K6 rf (nr h), fun _ => trivial, fun _ => trivial, fun _ => trivial, fun _ => trivial, fun _ => trivial, fun _ => trivial, fun _ => trivial, fun _ => trivial, fun h => K15 rf (nr h), fun h => K16 rf (nr h), fun h => K17 rf (nr h), fun h => K18 rf (nr h), fun h => K19 rf (nr h), fun h => K20 rf (nr h), fun h => K21 rf (nr h), fun h => K22 rf (nr h), fun h => K23 rf (nr h), fun h => K24 rf (nr h), fun h => K25 rf (nr h), fun h => K26 rf (nr h), fun h => K27 rf (nr h)⟩
    · have d6 := waits u8_6 hdep
      have e6_0 := f6 d6
      refine o8.skip o6 e6_0 ?_
      exact ⟨hf.put (by decide) _, hb, un, fun h => K0 rf (nr h), fun h => K1 rf (nr h), fun h => K2 rf (nr h), fun h => K3 rf (nr h), fun h => K4 rf (nr h), fun h => K5 rf (nr h), fun h => K6 rf (nr h), fun _ => trivial, fun _ => trivial, fun _ => trivial, fun _ => trivial, fun _ => trivial, fun _ => trivial, fun _ => trivial, fun _ => trivial, fun h => K15 rf (nr h), fun h => K16 rf (nr h), fun h => K17 rf (nr h), fun h => K18 rf (nr h), fun h => K19 rf (nr h), fun h => K20 rf (nr h), fun h => K21 rf (nr h), fun h => K22 rf (nr h), fun h => K23 rf (nr h), fun h => K24 rf (nr h), fun h => K25 rf (nr h), fun h => K26 rf (nr h), fun h => K27 rf (nr h)⟩
    · have d6 := waits u9_6 hdep
      have e6_0 := f6 d6
      refine o9.skip o6 e6_0 ?_
      exact ⟨hf.put (by decide) _, hb, un, fun h => K0 rf (nr h), fun h => K1 rf (nr h), fun h => K2 rf (nr h), fun h => K3 rf (nr h), fun h => K4 rf (nr h), fun h => K5 rf (nr h), fun h => K6 rf (nr h), fun _ => trivial, fun _ => trivial, fun _ => trivial, fun _ => trivial, fun _ => trivial, fun _ => trivial, fun _ => trivial, fun _ => trivial, fun h => K15 rf (nr h), fun h => K16 rf (nr h), fun h => K17 rf (nr h), fun h => K18 rf (nr h), fun h => K19 rf (nr h), fun h => K20 rf (nr h), fun h => K21 rf (nr h), fun h => K22 rf (nr h), fun h => K23 rf (nr h), fun h => K24 rf (nr h), fun h => K25 rf (nr h), fun h => K26 rf (nr h), fun h => K27 rf (nr h)⟩
    · have d6 := waits u10_6 hdep
      have e6_0 := f6 d6
      refine o10.skip o6 e6_0 ?_
      exact ⟨hf.put (by decide) _, hb, un, fun h => K0 rf (nr h), fun h => K1 rf (nr h), fun h => K2 rf (nr h), fun h => K3 rf (nr h), fun h => K4 rf (nr h), fun h => K5 rf (nr h), fun h => K6 rf (nr h), fun _ => trivial, fun _ => trivial, fun _ => trivial, fun _ => trivial, fun _ => trivial, fun _ => trivial, fun _ => trivial, fun _ => trivial, fun h => K15 rf (nr h), fun h => K16 rf (nr h), fun h => K17 rf (nr h), fun h => K18 rf (nr h), fun h => K19 rf (nr h), fun h => K20 rf (nr h), fun h => K21 rf (nr h), fun h => K22 rf (nr h), fun h => K23 rf (nr h), fun h => K24 rf (nr h), fun h => K25 rf (nr h), fun h => K26 rf (nr h), fun h => K27 rf (nr h)⟩
    · have d6 := waits u11_6 hdep
      have e6_0 := f6 d6
      refine o11.skip o6 e6_0 ?_
      exact ⟨hf.put (by decide) _, hb, un, fun h => K0 rf (nr h), fun h => K1 rf (nr h), fun h => K2 rf (nr h), fun h => K3 rf (nr h), fun h => K4 rf (nr h), fun h => K5 rf (nr h), fun h => K6 rf (nr h), fun _ => trivial, fun _ => trivial, fun _ => trivial, fun _ => trivial, fun _ => trivial, fun _ => trivial, fun _ => trivial, fun _ => trivial, fun h => K15 rf (nr h), fun h => K16 rf (nr h), fun h => K17 rf (nr h), fun h => K18 rf (nr h), fun h => K19 rf (nr h), fun h => K20 rf (nr h), fun h => K21 rf (nr h), fun h => K22 rf (nr h), fun h => K23 rf (nr h), fun h => K24 rf (nr h), fun h => K25 rf (nr h), fun h => K26 rf (nr h), fun h => K27 rf (nr h)⟩
    · have d6 := waits u12_6 hdep
      have e6_0 := f6 d6
      refine o12.skip o6 e6_0 ?_
      exact ⟨hf.put (by decide) _, hb, un, fun h => K0 rf (nr h), fun h => K1 rf (nr h), fun h => K2 rf (nr h), fun h => K3 rf (nr h), fun h => K4 rf (nr h), fun h => K5 rf (nr h), fun h => K6 rf (nr h), fun _ => trivial, fun _ => trivial, fun _ => trivial, fun _ => trivial, fun _ => trivial, fun _ => trivial, fun _ => trivial, fun _ => trivial, fun h => K15 rf (nr h), fun h => K16 rf (nr h), fun h => K17 rf (nr h), fun h => K18 rf (nr h), fun h => K19 rf (nr h), fun h => K20 rf (nr h), fun h => K21 rf (nr h), fun h => K22 rf (nr h), fun h => K23 rf (nr h), fun h => K24 rf (nr h), fun h => K25 rf (nr h), fun h => K26 rf (nr h), fun h => K27 rf (nr h)⟩
    · have d6 := waits u13_6 hdep
      have e6_0 := f6 d6
      refine o13.skip o6 e6_0 ?_
      exact ⟨hf.put (by decide) _, hb, un, fun h => K0 rf (nr h), fun h => K1 rf (nr h), fun h => K2 rf (nr h), fun h => K3 rf (nr h), fun h => K4 rf (nr h), fun h => K5 rf (nr h), fun h => K6 rf (nr h), fun _ => trivial, fun _ => trivial, fun _ => trivial, fun _ => trivial, fun _ => trivial, fun _ => trivial, fun _ => trivial, fun _ => trivial, fun h => K15 rf (nr h), fun h => K16 rf (nr h), fun h => K17 rf (nr h), fun h => K18 rf (nr h), fun h => K19 rf (nr h), fun h => K20 rf (nr h), fun h => K21 rf (nr h), fun h => K22 rf (nr h), fun h => K23 rf (nr h), fun h => K24 rf (nr h), fun h => K25 rf (nr h), fun h => K26 rf (nr h), fun h => K27 rf (nr h)⟩
    · have d6 := waits u14_6 hdep
      have e6_0 := f6 d6
      refine o14.skip o6 e6_0 ?_
      exact ⟨hf.put (by decide) _, hb, un, fun h => K0 rf (nr h), fun h => K1 rf (nr h), fun h => K2 rf (nr h), fun h => K3 rf (nr h), fun h => K4 rf (nr h), fun h => K5 rf (nr h), fun h => K6 rf (nr h), fun _ => trivial, fun _ => trivial, fun _ => trivial, fun _ => trivial, fun _ => trivial, fun _ => trivial, fun _ => trivial, fun _ => trivial, fun h => K15 rf (nr h), fun h => K16 rf (nr h), fun h => K17 rf (nr h), fun h => K18 rf (nr h), fun h => K19 rf (nr h), fun h => K20 rf (nr h), fun h => K21 rf (nr h), fun h => K22 rf (nr h), fun h => K23 rf (nr h), fun h => K24 rf (nr h), fun h => K25 rf (nr h), fun h => K26 rf (nr h), fun h => K27 rf (nr h)⟩
    · have d6 := waits u15_6 hdep
      have e6_0 := f6 d6
      refine wpOp_val (v := .bool true) (w' := w) o15 (fun o ho => by unfold execOp; rw [ho]; dsimp only; simp only [List.map_toArray, List.map_cons, List.map_nil, e6_0, eval_const]; simp [go_sem]) ?_
      exact ⟨hf.put (by decide) _, hb, un, fun h => K0 rf (nr h), fun h => K1 rf (nr h), fun h => K2 rf (nr h), fun h => K3 rf (nr h), fun h => K4 rf (nr h), fun h => K5 rf (nr h), fun h => K6 rf (nr h), fun _ => trivial, fun _ => trivial, fun _ => trivial, fun _ => trivial, fun _ => trivial, fun _ => trivial, fun _ => trivial, fun _ => trivial, fun _ => eval_put_self (by rw [hz]; decide), fun h => K16 rf (nr h), fun h => K17 rf (nr h), fun h => K18 rf (nr h), fun h => K19 rf (nr h), fun h => K20 rf (nr h), fun h => K21 rf (nr h), fun h => K22 rf (nr h), fun h => K23 rf (nr h), fun h => K24 rf (nr h), fun h => K25 rf (nr h), fun h => K26 rf (nr h), fun h => K27 rf (nr h)⟩
    · have d15 := waits u16_15 hdep
      have e15_0 := f15 d15
      refine op_move o16 e15_0 ?_
      exact ⟨hf.put (by decide) _, hb, un, fun h => K0 rf (nr h), fun h => K1 rf (nr h), fun h => K2 rf (nr h), fun h => K3 rf (nr h), fun h => K4 rf (nr h), fun h => K5 rf (nr h), fun h => K6 rf (nr h), fun _ => trivial, fun _ => trivial, fun _ => trivial, fun _ => trivial, fun _ => trivial, fun _ => trivial, fun _ => trivial, fun _ => trivial, fun h => K15 rf (nr h), fun _ => eval_put_self (by rw [hz]; decide), fun h => K17 rf (nr h), fun h => K18 rf (nr h), fun h => K19 rf (nr h), fun h => K20 rf (nr h), fun h => K21 rf (nr h), fun h => K22 rf (nr h), fun h => K23 rf (nr h), fun h => K24 rf (nr h), fun h => K25 rf (nr h), fun h => K26 rf (nr h), fun h => K27 rf (nr h)⟩
    · have d16 := waits u17_16 hdep
      have e16_0 := f16 d16
      refine can_load (o17.can o16 e16_0) ((hf.eval (by decide)).trans h3) (load_part (hS.below hb) 0 (shotCells c v1 v2 (.slice (some ⟨g, og, none⟩) n cap) v4 j) (by kernel_rfl) (by kernel_rfl) (by kernel_rfl)) ?_
      exact ⟨hf.put (by decide) _, hb, un, fun h => K0 rf (nr h), fun h => K1 rf (nr h), fun h => K2 rf (nr h), fun h => K3 rf (nr h), fun h => K4 rf (nr h), fun h => K5 rf (nr h), fun h => K6 rf (nr h), fun _ => trivial, fun _ => trivial, fun _ => trivial, fun _ => trivial, fun _ => trivial, fun _ => trivial, fun _ => trivial, fun _ => trivial, fun h => K15 rf (nr h), fun h => K16 rf (nr h), fun _ => eval_put_self (by rw [hz]; decide), fun h => K18 rf (nr h), fun h => K19 rf (nr h), fun h => K20 rf (nr h), fun h => K21 rf (nr h), fun h => K22 rf (nr h), fun h => K23 rf (nr h), fun h => K24 rf (nr h), fun h => K25 rf (nr h), fun h => K26 rf (nr h), fun h => K27 rf (nr h)⟩
    · have d16 := waits u18_16 hdep
      have e16_0 := f16 d16
      refine wpCan_val (v := .pointer (some ⟨P, 13, none⟩)) (w' := w) (o18.can o16 e16_0) (fun o ho => by unfold execOp; rw [ho]; dsimp only; rw [(hf.eval (by decide)).trans h3]; simp [go_sem]) ?_
      exact ⟨hf.put (by decide) _, hb, un, fun h => K0 rf (nr h), fun h => K1 rf (nr h), fun h => K2 rf (nr h), fun h => K3 rf (nr h), fun h => K4 rf (nr h), fun h => K5 rf (nr h), fun h => K6 rf (nr h), fun _ => trivial, fun _ => trivial, fun _ => trivial, fun _ => trivial, fun _ => trivial, fun _ => trivial, fun _ => trivial, fun _ => trivial, fun h => K15 rf (nr h), fun h => K16 rf (nr h), fun h => K17 rf (nr h), fun _ => eval_put_self (by rw [hz]; decide), fun h => K19 rf (nr h), fun h => K20 rf (nr h), fun h => K21 rf (nr h), fun h => K22 rf (nr h), fun h => K23 rf (nr h), fun h => K24 rf (nr h), fun h => K25 rf (nr h), fun h => K26 rf (nr h), fun h => K27 rf (nr h)⟩
    · have d18 := waits u19_18 hdep
      have e18_0 := f18 d18
      have d16 := waits u19_16 hdep
      have e16_0 := f16 d16
      refine can_load (v := .slice (some ⟨g, og, none⟩) n cap) (o19.can o16 e16_0) e18_0 (by have hc := (hS.below hb).cell 13 (.slice (some ⟨g, og, none⟩) n cap) rfl; simp [go_sem, hc]) ?_
      exact ⟨hf.put (by decide) _, hb, un, fun h => K0 rf (nr h), fun h => K1 rf (nr h), fun h => K2 rf (nr h), fun h => K3 rf (nr h), fun h => K4 rf (nr h), fun h => K5 rf (nr h), fun h => K6 rf (nr h), fun _ => trivial, fun _ => trivial, fun _ => trivial, fun _ => trivial, fun _ => trivial, fun _ => trivial, fun _ => trivial, fun _ => trivial, fun h => K15 rf (nr h), fun h => K16 rf (nr h), fun h => K17 rf (nr h), fun h => K18 rf (nr h), fun _ => eval_put_self (by rw [hz]; decide), fun h => K20 rf (nr h), fun h => K21 rf (nr h), fun h => K22 rf (nr h), fun h => K23 rf (nr h), fun h => K24 rf (nr h), fun h => K25 rf (nr h), fun h => K26 rf (nr h), fun h => K27 rf (nr h)⟩
    · have d16 := waits u20_16 hdep
      have e16_0 := f16 d16
      refine can_move (o20.can o16 e16_0) ((hf.eval (by decide)).trans h5) ?_
      exact ⟨hf.put (by decide) _, hb, un, fun h => K0 rf (nr h), fun h => K1 rf (nr h), fun h => K2 rf (nr h), fun h => K3 rf (nr h), fun h => K4 rf (nr h), fun h => K5 rf (nr h), fun h => K6 rf (nr h), fun _ => trivial, fun _ => trivial, fun _ => trivial, fun _ => trivial, fun _ => trivial, fun _ => trivial, fun _ => trivial, fun _ => trivial, fun h => K15 rf (nr h), fun h => K16 rf (nr h), fun h => K17 rf (nr h), fun h => K18 rf (nr h), fun h => K19 rf (nr h), fun _ => eval_put_self (by rw [hz]; decide), fun h => K21 rf (nr h), fun h => K22 rf (nr h), fun h => K23 rf (nr h), fun h => K24 rf (nr h), fun h => K25 rf (nr h), fun h => K26 rf (nr h), fun h => K27 rf (nr h)⟩
    · have d19 := waits u21_19 hdep
      have e19_0 := f19 d19
      have d20 := waits u21_20 hdep
      have e20_0 := f20 d20
      have d16 := waits u21_16 hdep
      have e16_0 := f16 d16
      refine wpCan_val (v := .pointer (some ⟨g, og + u, none⟩)) (w' := w) (o21.can o16 e16_0) (fun o ho => by unfold execOp; rw [ho]; dsimp only; simp only [List.map_toArray, List.map_cons, List.map_nil, e19_0, e20_0, e16_0, eval_const]; simp [go_sem, hix]) ?_
      exact ⟨hf.put (by decide) _, hb, un, fun h => K0 rf (nr h), fun h => K1 rf (nr h), fun h => K2 rf (nr h), fun h => K3 rf (nr h), fun h => K4 rf (nr h), fun h => K5 rf (nr h), fun h => K6 rf (nr h), fun _ => trivial, fun _ => trivial, fun _ => trivial, fun _ => trivial, fun _ => trivial, fun _ => trivial, fun _ => trivial, fun _ => trivial, fun h => K15 rf (nr h), fun h => K16 rf (nr h), fun h => K17 rf (nr h), fun h => K18 rf (nr h), fun h => K19 rf (nr h), fun h => K20 rf (nr h), fun _ => eval_put_self (by rw [hz]; decide), fun h => K22 rf (nr h), fun h => K23 rf (nr h), fun h => K24 rf (nr h), fun h => K25 rf (nr h), fun h => K26 rf (nr h), fun h => K27 rf (nr h)⟩
    · have d21 := waits u22_21 hdep
      have e21_0 := f21 d21
      have d16 := waits u22_16 hdep
      have e16_0 := f16 d16
      refine can_load (v := .int .i64 X) (o22.can o16 e16_0) e21_0 (by have hc := (hb.cell (p := ⟨g, og + u, none⟩) hg).trans hX; simp [go_sem, hc]) ?_
      exact ⟨hf.put (by decide) _, hb, un, fun h => K0 rf (nr h), fun h => K1 rf (nr h), fun h => K2 rf (nr h), fun h => K3 rf (nr h), fun h => K4 rf (nr h), fun h => K5 rf (nr h), fun h => K6 rf (nr h), fun _ => trivial, fun _ => trivial, fun _ => trivial, fun _ => trivial, fun _ => trivial, fun _ => trivial, fun _ => trivial, fun _ => trivial, fun h => K15 rf (nr h), fun h => K16 rf (nr h), fun h => K17 rf (nr h), fun h => K18 rf (nr h), fun h => K19 rf (nr h), fun h => K20 rf (nr h), fun h => K21 rf (nr h), fun _ => eval_put_self (by rw [hz]; decide), fun h => K23 rf (nr h), fun h => K24 rf (nr h), fun h => K25 rf (nr h), fun h => K26 rf (nr h), fun h => K27 rf (nr h)⟩
    · have d17 := waits u23_17 hdep
      have e17_0 := f17 d17
      have d22 := waits u23_22 hdep
      have e22_0 := f22 d22
      have d16 := waits u23_16 hdep
      have e16_0 := f16 d16
      refine can_call (o23.can o16 e16_0) (by simp only [List.map_toArray, List.map_cons, List.map_nil, eval_const, e17_0, e22_0]) rfl ((H _ hb).mono ?_)
      rintro e w' ⟨rfl, hbw⟩
      have hbz := hbw.size
      have hb' := belowStepR hb hbw (Nat.le_refl _)
      refine ⟨_, rfl, ?_⟩
      exact ⟨hf.put (by decide) _, hb', un, fun h => K0 hbw (nr h), fun h => K1 hbw (nr h), fun h => K2 hbw (nr h), fun h => K3 hbw (nr h), fun h => K4 hbw (nr h), fun h => K5 hbw (nr h), fun h => K6 hbw (nr h), fun _ => trivial, fun _ => trivial, fun _ => trivial, fun _ => trivial, fun _ => trivial, fun _ => trivial, fun _ => trivial, fun _ => trivial, fun h => K15 hbw (nr h), fun h => K16 hbw (nr h), fun h => K17 hbw (nr h), fun h => K18 hbw (nr h), fun h => K19 hbw (nr h), fun h => K20 hbw (nr h), fun h => K21 hbw (nr h), fun h => K22 hbw (nr h), fun _ => eval_put_self (by rw [hz]; decide), fun h => K24 hbw (nr h), fun h => K25 hbw (nr h), fun h => K26 hbw (nr h), fun h => K27 hbw (nr h)⟩
    · have d16 := waits u24_16 hdep
      have e16_0 := f16 d16
      refine can_move (o24.can o16 e16_0) ((hf.eval (by decide)).trans h5) ?_
      exact ⟨hf.put (by decide) _, hb, un, fun h => K0 rf (nr h), fun h => K1 rf (nr h), fun h => K2 rf (nr h), fun h => K3 rf (nr h), fun h => K4 rf (nr h), fun h => K5 rf (nr h), fun h => K6 rf (nr h), fun _ => trivial, fun _ => trivial, fun _ => trivial, fun _ => trivial, fun _ => trivial, fun _ => trivial, fun _ => trivial, fun _ => trivial, fun h => K15 rf (nr h), fun h => K16 rf (nr h), fun h => K17 rf (nr h), fun h => K18 rf (nr h), fun h => K19 rf (nr h), fun h => K20 rf (nr h), fun h => K21 rf (nr h), fun h => K22 rf (nr h), fun h => K23 rf (nr h), fun _ => eval_put_self (by rw [hz]; decide), fun h => K25 rf (nr h), fun h => K26 rf (nr h), fun h => K27 rf (nr h)⟩
    · have d23 := waits u25_23 hdep
      have e23_0 := f23 d23
      have d24 := waits u25_24 hdep
      have e24_0 := f24 d24
      have d16 := waits u25_16 hdep
      have e16_0 := f16 d16
      refine wpCan_val (v := .bool true) (w' := w) (o25.can o16 e16_0) (fun o ho => by unfold execOp; rw [ho]; dsimp only; simp only [List.map_toArray, List.map_cons, List.map_nil, e23_0, e24_0, e16_0, eval_const]; simp [go_sem]) ?_
      exact ⟨hf.put (by decide) _, hb, un, fun h => K0 rf (nr h), fun h => K1 rf (nr h), fun h => K2 rf (nr h), fun h => K3 rf (nr h), fun h => K4 rf (nr h), fun h => K5 rf (nr h), fun h => K6 rf (nr h), fun _ => trivial, fun _ => trivial, fun _ => trivial, fun _ => trivial, fun _ => trivial, fun _ => trivial, fun _ => trivial, fun _ => trivial, fun h => K15 rf (nr h), fun h => K16 rf (nr h), fun h => K17 rf (nr h), fun h => K18 rf (nr h), fun h => K19 rf (nr h), fun h => K20 rf (nr h), fun h => K21 rf (nr h), fun h => K22 rf (nr h), fun h => K23 rf (nr h), fun h => K24 rf (nr h), fun _ => eval_put_self (by rw [hz]; decide), fun h => K26 rf (nr h), fun h => K27 rf (nr h)⟩
    · have d16 := waits u26_16 hdep
      have e16_0 := f16 d16
      have d25 := waits u26_25 hdep
      have e25_0 := f25 d25
      refine wpOp_val (v := .bool true) (w' := w) o26 (fun o ho => by unfold execOp; rw [ho]; dsimp only; simp only [List.map_toArray, List.map_cons, List.map_nil, e16_0, e25_0, eval_const]; simp [go_sem]) ?_
      exact ⟨hf.put (by decide) _, hb, un, fun h => K0 rf (nr h), fun h => K1 rf (nr h), fun h => K2 rf (nr h), fun h => K3 rf (nr h), fun h => K4 rf (nr h), fun h => K5 rf (nr h), fun h => K6 rf (nr h), fun _ => trivial, fun _ => trivial, fun _ => trivial, fun _ => trivial, fun _ => trivial, fun _ => trivial, fun _ => trivial, fun _ => trivial, fun h => K15 rf (nr h), fun h => K16 rf (nr h), fun h => K17 rf (nr h), fun h => K18 rf (nr h), fun h => K19 rf (nr h), fun h => K20 rf (nr h), fun h => K21 rf (nr h), fun h => K22 rf (nr h), fun h => K23 rf (nr h), fun h => K24 rf (nr h), fun h => K25 rf (nr h), fun _ => eval_put_self (by rw [hz]; decide), fun h => K27 rf (nr h)⟩
    · have d26 := waits u27_26 hdep
      have e26_0 := f26 d26
      refine op_assign o27 e26_0 ?_
      exact ⟨hf.put (by decide) _, hb, un, fun h => K0 rf (nr h), fun h => K1 rf (nr h), fun h => K2 rf (nr h), fun h => K3 rf (nr h), fun h => K4 rf (nr h), fun h => K5 rf (nr h), fun h => K6 rf (nr h), fun _ => trivial, fun _ => trivial, fun _ => trivial, fun _ => trivial, fun _ => trivial, fun _ => trivial, fun _ => trivial, fun _ => trivial, fun h => K15 rf (nr h), fun h => K16 rf (nr h), fun h => K17 rf (nr h), fun h => K18 rf (nr h), fun h => K19 rf (nr h), fun h => K20 rf (nr h), fun h => K21 rf (nr h), fun h => K22 rf (nr h), fun h => K23 rf (nr h), fun h => K24 rf (nr h), fun h => K25 rf (nr h), fun h => K26 rf (nr h), fun _ => eval_put_self (by rw [hz]; decide)⟩
  · intro D a w hD hI
    obtain ⟨hf, hb, un, f0, f1, f2, f3, f4, f5, f6, f7, f8, f9, f10, f11, f12, f13, f14, f15, f16, f17, f18, f19, f20, f21, f22, f23, f24, f25, f26, f27⟩ := hI
    rw [hn] at hD
    have e0_0 := f0 (hD 0 (by decide))
    have e1_0 := f1 (hD 1 (by decide))
    have e2_0 := f2 (hD 2 (by decide))
    have e3_0 := f3 (hD 3 (by decide))
    have e4_0 := f4 (hD 4 (by decide))
    have e5_0 := f5 (hD 5 (by decide))
    have e6_0 := f6 (hD 6 (by decide))
    have e15_0 := f15 (hD 15 (by decide))
    have e16_0 := f16 (hD 16 (by decide))
    have e17_0 := f17 (hD 17 (by decide))
    have e18_0 := f18 (hD 18 (by decide))
    have e19_0 := f19 (hD 19 (by decide))
    have e20_0 := f20 (hD 20 (by decide))
    have e21_0 := f21 (hD 21 (by decide))
    have e22_0 := f22 (hD 22 (by decide))
    have e23_0 := f23 (hD 23 (by decide))
    have e24_0 := f24 (hD 24 (by decide))
    have e25_0 := f25 (hD 25 (by decide))
    have e26_0 := f26 (hD 26 (by decide))
    have e27_0 := f27 (hD 27 (by decide))
    exact hQ a w hf ⟨e27_0, hb⟩
  · exact ⟨FrameIs.refl _ _, (Below.refl _ _).drew, (), fun h => False.elim h, fun h => False.elim h, fun h => False.elim h, fun h => False.elim h, fun h => False.elim h, fun h => False.elim h, fun h => False.elim h, fun h => False.elim h, fun h => False.elim h, fun h => False.elim h, fun h => False.elim h, fun h => False.elim h, fun h => False.elim h, fun h => False.elim h, fun h => False.elim h, fun h => False.elim h, fun h => False.elim h, fun h => False.elim h, fun h => False.elim h, fun h => False.elim h, fun h => False.elim h, fun h => False.elim h, fun h => False.elim h, fun h => False.elim h, fun h => False.elim h, fun h => False.elim h, fun h => False.elim h, fun h => False.elim h⟩

theorem unitsRegB_ops (ops : Array Oper) (h : regionOps 9 (Try.f3.body.getD .skip) = some ops) : backward ops = true ∧ ops.size = 28 ∧ IsOp ops 0 (some 45) (.move (.tmp 5)) ∧ IsOp ops 1 (some 46) (.binOp .add 3 (.tmp 45) (.const (.int .i64 1)) 3) ∧ IsOp ops 2 (some 47) (.fieldAddr 35 (.tmp 3) 3) ∧ IsOp ops 3 (some 48) (.load 32 (.tmp 47)) ∧ IsOp ops 4 (some 49) (.call ⟨.builtin .len, #[.tmp 48], #[32]⟩) ∧ IsOp ops 5 (some 50) (.binOp .eql 3 (.tmp 46) (.tmp 49) 3) ∧ IsOp ops 6 (some 51) (.move (.tmp 50)) ∧ IsOpB ops 7 (some 52) (.fieldAddr 35 (.tmp 3) 3) 6 false ∧ IsOpB ops 8 (some 53) (.load 32 (.tmp 52)) 6 false ∧ IsOpB ops 9 (some 54) (.move (.tmp 5)) 6 false ∧ IsOpB ops 10 (some 55) (.binOp .add 3 (.tmp 54) (.const (.int .i64 1)) 3) 6 false ∧ IsOpB ops 11 (some 56) (.indexAddr 32 (.tmp 53) (.tmp 55)) 6 false ∧ IsOpB ops 12 (some 57) (.load 3 (.tmp 56)) 6 false ∧ IsOpB ops 13 (some 58) (.move (.tmp 4)) 6 false ∧ IsOpB ops 14 (some 59) (.binOp .gtr 3 (.tmp 57) (.tmp 58) 3) 6 false ∧ IsOp ops 15 (some 60) (.pick (.tmp 51) (.const (.bool true)) (.tmp 59)) ∧ IsOp ops 16 (some 61) (.move (.tmp 60)) ∧ IsOpB ops 17 (some 62) (.load 35 (.tmp 3)) 16 true ∧ IsOpB ops 18 (some 63) (.fieldAddr 35 (.tmp 3) 3) 16 true ∧ IsOpB ops 19 (some 64) (.load 32 (.tmp 63)) 16 true ∧ IsOpB ops 20 (some 65) (.move (.tmp 5)) 16 true ∧ IsOpB ops 21 (some 66) (.indexAddr 32 (.tmp 64) (.tmp 65)) 16 true ∧ IsOpB ops 22 (some 67) (.load 3 (.tmp 66)) 16 true ∧ IsOpB ops 23 (some 68) (.call ⟨.value (.func 8), #[.tmp 62, .tmp 67], #[35, 3]⟩) 16 true ∧ IsOpB ops 24 (some 69) (.move (.tmp 5)) 16 true ∧ IsOpB ops 25 (some 70) (.binOp .eql 3 (.tmp 68) (.tmp 69) 3) 16 true ∧ IsOp ops 26 (some 71) (.pick (.tmp 61) (.tmp 70) (.const (.bool false))) ∧ IsOp ops 27 (some 2) (.assign (.tmp 71)) ∧ Waits ops 1 0 ∧ Waits ops 3 2 ∧ Waits ops 4 3 ∧ Waits ops 5 1 ∧ Waits ops 5 4 ∧ Waits ops 6 5 ∧ Waits ops 7 6 ∧ Waits ops 8 7 ∧ Waits ops 8 6 ∧ Waits ops 9 6 ∧ Waits ops 10 9 ∧ Waits ops 10 6 ∧ Waits ops 11 8 ∧ Waits ops 11 10 ∧ Waits ops 11 6 ∧ Waits ops 12 11 ∧ Waits ops 12 6 ∧ Waits ops 13 6 ∧ Waits ops 14 12 ∧ Waits ops 14 13 ∧ Waits ops 14 6 ∧ Waits ops 15 6 ∧ Waits ops 15 14 ∧ Waits ops 16 15 ∧ Waits ops 17 16 ∧ Waits ops 18 16 ∧ Waits ops 19 18 ∧ Waits ops 19 16 ∧ Waits ops 20 16 ∧ Waits ops 21 19 ∧ Waits ops 21 20 ∧ Waits ops 21 16 ∧ Waits ops 22 21 ∧ Waits ops 22 16 ∧ Waits ops 23 17 ∧ Waits ops 23 22 ∧ Waits ops 23 16 ∧ Waits ops 24 16 ∧ Waits ops 25 23 ∧ Waits ops 25 24 ∧ Waits ops 25 16 ∧ Waits ops 26 16 ∧ Waits ops 26 25 ∧ Waits ops 27 26 := by
  obtain rfl : ops = (regionOps 9 (Try.f3.body.getD .skip)).getD #[] := by rw [h]; rfl
  exact ⟨by kernel_rfl, by kernel_rfl, by unfold IsOp; kernel_rfl, by unfold IsOp; kernel_rfl, by unfold IsOp; kernel_rfl, by unfold IsOp; kernel_rfl, by unfold IsOp; kernel_rfl, by unfold IsOp; kernel_rfl, by unfold IsOp; kernel_rfl, by unfold IsOpB; kernel_rfl, by unfold IsOpB; kernel_rfl, by unfold IsOpB; kernel_rfl, by unfold IsOpB; kernel_rfl, by unfold IsOpB; kernel_rfl, by unfold IsOpB; kernel_rfl, by unfold IsOpB; kernel_rfl, by unfold IsOpB; kernel_rfl, by unfold IsOp; kernel_rfl, by unfold IsOp; kernel_rfl, by unfold IsOpB; kernel_rfl, by unfold IsOpB; kernel_rfl, by unfold IsOpB; kernel_rfl, by unfold IsOpB; kernel_rfl, by unfold IsOpB; kernel_rfl, by unfold IsOpB; kernel_rfl, by unfold IsOpB; kernel_rfl, by unfold IsOpB; kernel_rfl, by unfold IsOpB; kernel_rfl, by unfold IsOp; kernel_rfl, by unfold IsOp; kernel_rfl, by unfold Waits; kernel_rfl, by unfold Waits; kernel_rfl, by unfold Waits; kernel_rfl, by unfold Waits; kernel_rfl, by unfold Waits; kernel_rfl, by unfold Waits; kernel_rfl, by unfold Waits; kernel_rfl, by unfold Waits; kernel_rfl, by unfold Waits; kernel_rfl, by unfold Waits; kernel_rfl, by unfold Waits; kernel_rfl, by unfold Waits; kernel_rfl, by unfold Waits; kernel_rfl, by unfold Waits; kernel_rfl, by unfold Waits; kernel_rfl, by unfold Waits; kernel_rfl, by unfold Waits; kernel_rfl, by unfold Waits; kernel_rfl, by unfold Waits; kernel_rfl, by unfold Waits; kernel_rfl, by unfold Waits; kernel_rfl, by unfold Waits; kernel_rfl, by unfold Waits; kernel_rfl, by unfold Waits; kernel_rfl, by unfold Waits; kernel_rfl, by unfold Waits; kernel_rfl, by unfold Waits; kernel_rfl, by unfold Waits; kernel_rfl, by unfold Waits; kernel_rfl, by unfold Waits; kernel_rfl, by unfold Waits; kernel_rfl, by unfold Waits; kernel_rfl, by unfold Waits; kernel_rfl, by unfold Waits; kernel_rfl, by unfold Waits; kernel_rfl, by unfold Waits; kernel_rfl, by unfold Waits; kernel_rfl, by unfold Waits; kernel_rfl, by unfold Waits; kernel_rfl, by unfold Waits; kernel_rfl, by unfold Waits; kernel_rfl, by unfold Waits; kernel_rfl, by unfold Waits; kernel_rfl, by unfold Waits; kernel_rfl⟩

abbrev unitsRegB_I (u n : Nat) (ii X X1 : Int) (P g og cap : Nat) (c : CpuN) (v1 v2 v4 : Value) (j : Bool) (V : World) (a0 : Act) (D : Nat → Prop) (a : Act) (w : World) : Prop :=
  FrameIs a0 [2, 45, 46, 47, 48, 49, 50, 51, 52, 53, 54, 55, 56, 57, 58, 59, 60, 61, 62, 63, 64, 65, 66, 67, 68, 69, 70, 71] a ∧ Below V.heap.size V w ∧ ∃ (un : Unit), (D 0 → a.eval (.tmp 45) = .int .i64 (u : Int)) ∧ (D 1 → a.eval (.tmp 46) = .int .i64 ((u : Int) + 1)) ∧ (D 2 → a.eval (.tmp 47) = .pointer (some ⟨P, 13, none⟩)) ∧ (D 3 → a.eval (.tmp 48) = .slice (some ⟨g, og, none⟩) n cap) ∧ (D 4 → a.eval (.tmp 49) = .int .i64 (n : Int)) ∧ (D 5 → a.eval (.tmp 50) = .bool false) ∧ (D 6 → a.eval (.tmp 51) = .bool false) ∧ (D 7 → a.eval (.tmp 52) = .pointer (some ⟨P, 13, none⟩)) ∧ (D 8 → a.eval (.tmp 53) = .slice (some ⟨g, og, none⟩) n cap) ∧ (D 9 → a.eval (.tmp 54) = .int .i64 (u : Int)) ∧ (D 10 → a.eval (.tmp 55) = .int .i64 ((u : Int) + 1)) ∧ (D 11 → a.eval (.tmp 56) = .pointer (some ⟨g, og + (u + 1), none⟩)) ∧ (D 12 → a.eval (.tmp 57) = .int .i64 X1) ∧ (D 13 → a.eval (.tmp 58) = .int .i64 ii) ∧ (D 14 → a.eval (.tmp 59) = .bool true) ∧ (D 15 → a.eval (.tmp 60) = .bool true) ∧ (D 16 → a.eval (.tmp 61) = .bool true) ∧ (D 17 → a.eval (.tmp 62) = shotV c v1 v2 (.slice (some ⟨g, og, none⟩) n cap) v4 j) ∧ (D 18 → a.eval (.tmp 63) = .pointer (some ⟨P, 13, none⟩)) ∧ (D 19 → a.eval (.tmp 64) = .slice (some ⟨g, og, none⟩) n cap) ∧ (D 20 → a.eval (.tmp 65) = .int .i64 (u : Int)) ∧ (D 21 → a.eval (.tmp 66) = .pointer (some ⟨g, og + u, none⟩)) ∧ (D 22 → a.eval (.tmp 67) = .int .i64 X) ∧ (D 23 → a.eval (.tmp 68) = .int .i64 (u : Int)) ∧ (D 24 → a.eval (.tmp 69) = .int .i64 (u : Int)) ∧ (D 25 → a.eval (.tmp 70) = .bool true) ∧ (D 26 → a.eval (.tmp 71) = .bool true) ∧ (D 27 → a.eval (.tmp 2) = .bool true)

set_option maxRecDepth 100000 in
set_option maxHeartbeats 4000000 in
theorem unitsRegB (u n : Nat) (ii X X1 : Int) (P g og cap : Nat) (c : CpuN) (v1 v2 v4 : Value) (j : Bool) (V : World) (hS : BoxN V P 35 (shotCells c v1 v2 (.slice (some ⟨g, og, none⟩) n cap) v4 j)) (hg : g < V.heap.size) (hX : V.cell? ⟨g, og + u, none⟩ = some (.int .i64 X)) (hun : u < n) (hnn : n ≤ 1048576) (hun1 : u + 1 < n) (hX1 : V.cell? ⟨g, og + (u + 1), none⟩ = some (.int .i64 X1)) (hiX : ii < X1) (H : ∀ W : World, Below V.heap.size V W → Calls Try.prog 8 #[shotV c v1 v2 (.slice (some ⟨g, og, none⟩) n cap) v4 j, .int .i64 X] W fun e w' => e = .returned (.int .i64 (u : Int)) ∧ Below W.heap.size W w') (a0 : Act) (h3 : a0.eval (.tmp 3) = .pointer (some ⟨P, 0, none⟩)) (h4 : a0.eval (.tmp 4) = .int .i64 ii) (h5 : a0.eval (.tmp 5) = .int .i64 (u : Int)) (hsz : a0.tmps.size = 72) (Q : Exit → Act → World → Prop)
    (hQ : ∀ a w, FrameIs a0 [2, 45, 46, 47, 48, 49, 50, 51, 52, 53, 54, 55, 56, 57, 58, 59, 60, 61, 62, 63, 64, 65, 66, 67, 68, 69, 70, 71] a → a.eval (.tmp 2) = .bool true ∧ Below V.heap.size V w → Q .normal a w)
    (ops : Array Oper) (hops : regionOps 9 (Try.f3.body.getD .skip) = some ops) (id : Nat) : (Code.region id ops true).wp Try.prog Q a0 V := by
  obtain ⟨hbk, hn, o0, o1, o2, o3, o4, o5, o6, o7, o8, o9, o10, o11, o12, o13, o14, o15, o16, o17, o18, o19, o20, o21, o22, o23, o24, o25, o26, o27, u1_0, u3_2, u4_3, u5_1, u5_4, u6_5, u7_6, u8_7, u8_6, u9_6, u10_9, u10_6, u11_8, u11_10, u11_6, u12_11, u12_6, u13_6, u14_12, u14_13, u14_6, u15_6, u15_14, u16_15, u17_16, u18_16, u19_18, u19_16, u20_16, u21_19, u21_20, u21_16, u22_21, u22_16, u23_17, u23_22, u23_16, u24_16, u25_23, u25_24, u25_16, u26_16, u26_25, u27_26⟩ := unitsRegB_ops ops hops
  clear hops
  have hix : ¬ n ≤ u := by omega
  have hq : ¬ (u : Int) + 1 = (n : Int) := by omega
  have hix1 : ¬ n ≤ u + 1 := by omega
  have hix2 : ¬ (n : Int) ≤ (u : Int) + 1 := by omega
  have hix3 : ¬ (u : Int) + 1 < 0 := by omega
  refine wp_region_facts (by kernel_rfl) hbk (unitsRegB_I u n ii X X1 P g og cap c v1 v2 v4 j V a0) ?_ ?_ id a0 V ?_
  · intro i hin D a w hnd hdep hI
    obtain ⟨hf, hb, un, f0, f1, f2, f3, f4, f5, f6, f7, f8, f9, f10, f11, f12, f13, f14, f15, f16, f17, f18, f19, f20, f21, f22, f23, f24, f25, f26, f27⟩ := hI
    rw [hn] at hin
    have hz : a.tmps.size = 72 := hf.size.trans hsz
    have hbs := hb.size
    have rf := Below.refl w.heap.size w
    have K0 : ∀ {d : Nat} {v : Value} {w' : World}, Below w.heap.size w w' → D 0 → (hd : 45 ≠ d := by decide) → (a.put (some d) v).eval (.tmp 45) = .int .i64 (u : Int) := fun {d v} {w'} hbw h hd => by have g0 := f0 h; exact ((eval_put_ne hd).trans g0)
    have K1 : ∀ {d : Nat} {v : Value} {w' : World}, Below w.heap.size w w' → D 1 → (hd : 46 ≠ d := by decide) → (a.put (some d) v).eval (.tmp 46) = .int .i64 ((u : Int) + 1) := fun {d v} {w'} hbw h hd => by have g0 := f1 h; exact ((eval_put_ne hd).trans g0)
    have K2 : ∀ {d : Nat} {v : Value} {w' : World}, Below w.heap.size w w' → D 2 → (hd : 47 ≠ d := by decide) → (a.put (some d) v).eval (.tmp 47) = .pointer (some ⟨P, 13, none⟩) := fun {d v} {w'} hbw h hd => by have g0 := f2 h; exact ((eval_put_ne hd).trans g0)
    have K3 : ∀ {d : Nat} {v : Value} {w' : World}, Below w.heap.size w w' → D 3 → (hd : 48 ≠ d := by decide) → (a.put (some d) v).eval (.tmp 48) = .slice (some ⟨g, og, none⟩) n cap := fun {d v} {w'} hbw h hd => by have g0 := f3 h; exact ((eval_put_ne hd).trans g0)
    have K4 : ∀ {d : Nat} {v : Value} {w' : World}, Below w.heap.size w w' → D 4 → (hd : 49 ≠ d := by decide) → (a.put (some d) v).eval (.tmp 49) = .int .i64 (n : Int) := fun {d v} {w'} hbw h hd => by have g0 := f4 h; exact ((eval_put_ne hd).trans g0)
    have K5 : ∀ {d : Nat} {v : Value} {w' : World}, Below w.heap.size w w' → D 5 → (hd : 50 ≠ d := by decide) → (a.put (some d) v).eval (.tmp 50) = .bool false := fun {d v} {w'} hbw h hd => by have g0 := f5 h; exact ((eval_put_ne hd).trans g0)
    have K6 : ∀ {d : Nat} {v : Value} {w' : World}, Below w.heap.size w w' → D 6 → (hd : 51 ≠ d := by decide) → (a.put (some d) v).eval (.tmp 51) = .bool false := fun {d v} {w'} hbw h hd => by have g0 := f6 h; exact ((eval_put_ne hd).trans g0)
    have K7 : ∀ {d : Nat} {v : Value} {w' : World}, Below w.heap.size w w' → D 7 → (hd : 52 ≠ d := by decide) → (a.put (some d) v).eval (.tmp 52) = .pointer (some ⟨P, 13, none⟩) := fun {d v} {w'} hbw h hd => by have g0 := f7 h; exact ((eval_put_ne hd).trans g0)
    have K8 : ∀ {d : Nat} {v : Value} {w' : World}, Below w.heap.size w w' → D 8 → (hd : 53 ≠ d := by decide) → (a.put (some d) v).eval (.tmp 53) = .slice (some ⟨g, og, none⟩) n cap := fun {d v} {w'} hbw h hd => by have g0 := f8 h; exact ((eval_put_ne hd).trans g0)
    have K9 : ∀ {d : Nat} {v : Value} {w' : World}, Below w.heap.size w w' → D 9 → (hd : 54 ≠ d := by decide) → (a.put (some d) v).eval (.tmp 54) = .int .i64 (u : Int) := fun {d v} {w'} hbw h hd => by have g0 := f9 h; exact ((eval_put_ne hd).trans g0)
    have K10 : ∀ {d : Nat} {v : Value} {w' : World}, Below w.heap.size w w' → D 10 → (hd : 55 ≠ d := by decide) → (a.put (some d) v).eval (.tmp 55) = .int .i64 ((u : Int) + 1) := fun {d v} {w'} hbw h hd => by have g0 := f10 h; exact ((eval_put_ne hd).trans g0)
    have K11 : ∀ {d : Nat} {v : Value} {w' : World}, Below w.heap.size w w' → D 11 → (hd : 56 ≠ d := by decide) → (a.put (some d) v).eval (.tmp 56) = .pointer (some ⟨g, og + (u + 1), none⟩) := fun {d v} {w'} hbw h hd => by have g0 := f11 h; exact ((eval_put_ne hd).trans g0)
    have K12 : ∀ {d : Nat} {v : Value} {w' : World}, Below w.heap.size w w' → D 12 → (hd : 57 ≠ d := by decide) → (a.put (some d) v).eval (.tmp 57) = .int .i64 X1 := fun {d v} {w'} hbw h hd => by have g0 := f12 h; exact ((eval_put_ne hd).trans g0)
    have K13 : ∀ {d : Nat} {v : Value} {w' : World}, Below w.heap.size w w' → D 13 → (hd : 58 ≠ d := by decide) → (a.put (some d) v).eval (.tmp 58) = .int .i64 ii := fun {d v} {w'} hbw h hd => by have g0 := f13 h; exact ((eval_put_ne hd).trans g0)
    have K14 : ∀ {d : Nat} {v : Value} {w' : World}, Below w.heap.size w w' → D 14 → (hd : 59 ≠ d := by decide) → (a.put (some d) v).eval (.tmp 59) = .bool true := fun {d v} {w'} hbw h hd => by have g0 := f14 h; exact ((eval_put_ne hd).trans g0)
    have K15 : ∀ {d : Nat} {v : Value} {w' : World}, Below w.heap.size w w' → D 15 → (hd : 60 ≠ d := by decide) → (a.put (some d) v).eval (.tmp 60) = .bool true := fun {d v} {w'} hbw h hd => by have g0 := f15 h; exact ((eval_put_ne hd).trans g0)
    have K16 : ∀ {d : Nat} {v : Value} {w' : World}, Below w.heap.size w w' → D 16 → (hd : 61 ≠ d := by decide) → (a.put (some d) v).eval (.tmp 61) = .bool true := fun {d v} {w'} hbw h hd => by have g0 := f16 h; exact ((eval_put_ne hd).trans g0)
    have K17 : ∀ {d : Nat} {v : Value} {w' : World}, Below w.heap.size w w' → D 17 → (hd : 62 ≠ d := by decide) → (a.put (some d) v).eval (.tmp 62) = shotV c v1 v2 (.slice (some ⟨g, og, none⟩) n cap) v4 j := fun {d v} {w'} hbw h hd => by have g0 := f17 h; exact ((eval_put_ne hd).trans g0)
    have K18 : ∀ {d : Nat} {v : Value} {w' : World}, Below w.heap.size w w' → D 18 → (hd : 63 ≠ d := by decide) → (a.put (some d) v).eval (.tmp 63) = .pointer (some ⟨P, 13, none⟩) := fun {d v} {w'} hbw h hd => by have g0 := f18 h; exact ((eval_put_ne hd).trans g0)
    have K19 : ∀ {d : Nat} {v : Value} {w' : World}, Below w.heap.size w w' → D 19 → (hd : 64 ≠ d := by decide) → (a.put (some d) v).eval (.tmp 64) = .slice (some ⟨g, og, none⟩) n cap := fun {d v} {w'} hbw h hd => by have g0 := f19 h; exact ((eval_put_ne hd).trans g0)
    have K20 : ∀ {d : Nat} {v : Value} {w' : World}, Below w.heap.size w w' → D 20 → (hd : 65 ≠ d := by decide) → (a.put (some d) v).eval (.tmp 65) = .int .i64 (u : Int) := fun {d v} {w'} hbw h hd => by have g0 := f20 h; exact ((eval_put_ne hd).trans g0)
    have K21 : ∀ {d : Nat} {v : Value} {w' : World}, Below w.heap.size w w' → D 21 → (hd : 66 ≠ d := by decide) → (a.put (some d) v).eval (.tmp 66) = .pointer (some ⟨g, og + u, none⟩) := fun {d v} {w'} hbw h hd => by have g0 := f21 h; exact ((eval_put_ne hd).trans g0)
    have K22 : ∀ {d : Nat} {v : Value} {w' : World}, Below w.heap.size w w' → D 22 → (hd : 67 ≠ d := by decide) → (a.put (some d) v).eval (.tmp 67) = .int .i64 X := fun {d v} {w'} hbw h hd => by have g0 := f22 h; exact ((eval_put_ne hd).trans g0)
    have K23 : ∀ {d : Nat} {v : Value} {w' : World}, Below w.heap.size w w' → D 23 → (hd : 68 ≠ d := by decide) → (a.put (some d) v).eval (.tmp 68) = .int .i64 (u : Int) := fun {d v} {w'} hbw h hd => by have g0 := f23 h; exact ((eval_put_ne hd).trans g0)
    have K24 : ∀ {d : Nat} {v : Value} {w' : World}, Below w.heap.size w w' → D 24 → (hd : 69 ≠ d := by decide) → (a.put (some d) v).eval (.tmp 69) = .int .i64 (u : Int) := fun {d v} {w'} hbw h hd => by have g0 := f24 h; exact ((eval_put_ne hd).trans g0)
    have K25 : ∀ {d : Nat} {v : Value} {w' : World}, Below w.heap.size w w' → D 25 → (hd : 70 ≠ d := by decide) → (a.put (some d) v).eval (.tmp 70) = .bool true := fun {d v} {w'} hbw h hd => by have g0 := f25 h; exact ((eval_put_ne hd).trans g0)
    have K26 : ∀ {d : Nat} {v : Value} {w' : World}, Below w.heap.size w w' → D 26 → (hd : 71 ≠ d := by decide) → (a.put (some d) v).eval (.tmp 71) = .bool true := fun {d v} {w'} hbw h hd => by have g0 := f26 h; exact ((eval_put_ne hd).trans g0)
    have K27 : ∀ {d : Nat} {v : Value} {w' : World}, Below w.heap.size w w' → D 27 → (hd : 2 ≠ d := by decide) → (a.put (some d) v).eval (.tmp 2) = .bool true := fun {d v} {w'} hbw h hd => by have g0 := f27 h; exact ((eval_put_ne hd).trans g0)
    obtain (rfl | rfl | rfl | rfl | rfl | rfl | rfl | rfl | rfl | rfl | rfl | rfl | rfl | rfl | rfl | rfl | rfl | rfl | rfl | rfl | rfl | rfl | rfl | rfl | rfl | rfl | rfl | rfl) : i = 0 ∨ i = 1 ∨ i = 2 ∨ i = 3 ∨ i = 4 ∨ i = 5 ∨ i = 6 ∨ i = 7 ∨ i = 8 ∨ i = 9 ∨ i = 10 ∨ i = 11 ∨ i = 12 ∨ i = 13 ∨ i = 14 ∨ i = 15 ∨ i = 16 ∨ i = 17 ∨ i = 18 ∨ i = 19 ∨ i = 20 ∨ i = 21 ∨ i = 22 ∨ i = 23 ∨ i = 24 ∨ i = 25 ∨ i = 26 ∨ i = 27 := by omega
    · refine op_move o0 ((hf.eval (by decide)).trans h5) ?_
      exact ⟨hf.put (by decide) _, hb, un, fun _ => eval_put_self (by rw [hz]; decide), fun h => K1 rf (nr h), fun h => K2 rf (nr h), fun h => K3 rf (nr h), fun h => K4 rf (nr h), fun h => K5 rf (nr h), fun h => K6 rf (nr h), fun h => K7 rf (nr h), fun h => K8 rf (nr h), fun h => K9 rf (nr h), fun h => K10 rf (nr h), fun h => K11 rf (nr h), fun h => K12 rf (nr h), fun h => K13 rf (nr h), fun h => K14 rf (nr h), fun h => K15 rf (nr h), fun h => K16 rf (nr h), fun h => K17 rf (nr h), fun h => K18 rf (nr h), fun h => K19 rf (nr h), fun h => K20 rf (nr h), fun h => K21 rf (nr h), fun h => K22 rf (nr h), fun h => K23 rf (nr h), fun h => K24 rf (nr h), fun h => K25 rf (nr h), fun h => K26 rf (nr h), fun h => K27 rf (nr h)⟩
    · have d0 := waits u1_0 hdep
      have e0_0 := f0 d0
      refine wpOp_val (v := .int .i64 ((u : Int) + 1)) (w' := w) o1 (fun o ho => by unfold execOp; rw [ho]; dsimp only; simp only [List.map_toArray, List.map_cons, List.map_nil, e0_0, eval_const]; simp [go_sem, wrap1 hun hnn]) ?_
      exact ⟨hf.put (by decide) _, hb, un, fun h => K0 rf (nr h), fun _ => eval_put_self (by rw [hz]; decide), fun h => K2 rf (nr h), fun h => K3 rf (nr h), fun h => K4 rf (nr h), fun h => K5 rf (nr h), fun h => K6 rf (nr h), fun h => K7 rf (nr h), fun h => K8 rf (nr h), fun h => K9 rf (nr h), fun h => K10 rf (nr h), fun h => K11 rf (nr h), fun h => K12 rf (nr h), fun h => K13 rf (nr h), fun h => K14 rf (nr h), fun h => K15 rf (nr h), fun h => K16 rf (nr h), fun h => K17 rf (nr h), fun h => K18 rf (nr h), fun h => K19 rf (nr h), fun h => K20 rf (nr h), fun h => K21 rf (nr h), fun h => K22 rf (nr h), fun h => K23 rf (nr h), fun h => K24 rf (nr h), fun h => K25 rf (nr h), fun h => K26 rf (nr h), fun h => K27 rf (nr h)⟩
    · refine wpOp_val (v := .pointer (some ⟨P, 13, none⟩)) (w' := w) o2 (fun o ho => by unfold execOp; rw [ho]; dsimp only; rw [(hf.eval (by decide)).trans h3]; simp [go_sem]) ?_
      exact ⟨hf.put (by decide) _, hb, un, fun h => K0 rf (nr h), fun h => K1 rf (nr h), fun _ => eval_put_self (by rw [hz]; decide), fun h => K3 rf (nr h), fun h => K4 rf (nr h), fun h => K5 rf (nr h), fun h => K6 rf (nr h), fun h => K7 rf (nr h), fun h => K8 rf (nr h), fun h => K9 rf (nr h), fun h => K10 rf (nr h), fun h => K11 rf (nr h), fun h => K12 rf (nr h), fun h => K13 rf (nr h), fun h => K14 rf (nr h), fun h => K15 rf (nr h), fun h => K16 rf (nr h), fun h => K17 rf (nr h), fun h => K18 rf (nr h), fun h => K19 rf (nr h), fun h => K20 rf (nr h), fun h => K21 rf (nr h), fun h => K22 rf (nr h), fun h => K23 rf (nr h), fun h => K24 rf (nr h), fun h => K25 rf (nr h), fun h => K26 rf (nr h), fun h => K27 rf (nr h)⟩
    · have d2 := waits u3_2 hdep
      have e2_0 := f2 d2
      refine op_load (v := .slice (some ⟨g, og, none⟩) n cap) o3 e2_0 (by have hc := (hS.below hb).cell 13 (.slice (some ⟨g, og, none⟩) n cap) rfl; simp [go_sem, hc]) ?_
      exact ⟨hf.put (by decide) _, hb, un, fun h => K0 rf (nr h), fun h => K1 rf (nr h), fun h => K2 rf (nr h), fun _ => eval_put_self (by rw [hz]; decide), fun h => K4 rf (nr h), fun h => K5 rf (nr h), fun h => K6 rf (nr h), fun h => K7 rf (nr h), fun h => K8 rf (nr h), fun h => K9 rf (nr h), fun h => K10 rf (nr h), fun h => K11 rf (nr h), fun h => K12 rf (nr h), fun h => K13 rf (nr h), fun h => K14 rf (nr h), fun h => K15 rf (nr h), fun h => K16 rf (nr h), fun h => K17 rf (nr h), fun h => K18 rf (nr h), fun h => K19 rf (nr h), fun h => K20 rf (nr h), fun h => K21 rf (nr h), fun h => K22 rf (nr h), fun h => K23 rf (nr h), fun h => K24 rf (nr h), fun h => K25 rf (nr h), fun h => K26 rf (nr h), fun h => K27 rf (nr h)⟩
    · have d3 := waits u4_3 hdep
      have e3_0 := f3 d3
      refine wpOp_val (v := .int .i64 (n : Int)) (w' := w) o4 (fun o ho => by unfold execOp; rw [ho]; simp only [resolve, invoke, builtin, List.map_toArray, List.map_cons, List.map_nil, e3_0]; simp [go_sem]) ?_
      exact ⟨hf.put (by decide) _, hb, un, fun h => K0 rf (nr h), fun h => K1 rf (nr h), fun h => K2 rf (nr h), fun h => K3 rf (nr h), fun _ => eval_put_self (by rw [hz]; decide), fun h => K5 rf (nr h), fun h => K6 rf (nr h), fun h => K7 rf (nr h), fun h => K8 rf (nr h), fun h => K9 rf (nr h), fun h => K10 rf (nr h), fun h => K11 rf (nr h), fun h => K12 rf (nr h), fun h => K13 rf (nr h), fun h => K14 rf (nr h), fun h => K15 rf (nr h), fun h => K16 rf (nr h), fun h => K17 rf (nr h), fun h => K18 rf (nr h), fun h => K19 rf (nr h), fun h => K20 rf (nr h), fun h => K21 rf (nr h), fun h => K22 rf (nr h), fun h => K23 rf (nr h), fun h => K24 rf (nr h), fun h => K25 rf (nr h), fun h => K26 rf (nr h), fun h => K27 rf (nr h)⟩
    · have d1 := waits u5_1 hdep
      have e1_0 := f1 d1
      have d4 := waits u5_4 hdep
      have e4_0 := f4 d4
      refine wpOp_val (v := .bool false) (w' := w) o5 (fun o ho => by unfold execOp; rw [ho]; dsimp only; simp only [List.map_toArray, List.map_cons, List.map_nil, e1_0, e4_0, eval_const]; simp [go_sem, hq]) ?_
      exact ⟨hf.put (by decide) _, hb, un, fun h => K0 rf (nr h), fun h => K1 rf (nr h), fun h => K2 rf (nr h), fun h => K3 rf (nr h), fun h => K4 rf (nr h), fun _ => eval_put_self (by rw [hz]; decide), fun h => K6 rf (nr h), fun h => K7 rf (nr h), fun h => K8 rf (nr h), fun h => K9 rf (nr h), fun h => K10 rf (nr h), fun h => K11 rf (nr h), fun h => K12 rf (nr h), fun h => K13 rf (nr h), fun h => K14 rf (nr h), fun h => K15 rf (nr h), fun h => K16 rf (nr h), fun h => K17 rf (nr h), fun h => K18 rf (nr h), fun h => K19 rf (nr h), fun h => K20 rf (nr h), fun h => K21 rf (nr h), fun h => K22 rf (nr h), fun h => K23 rf (nr h), fun h => K24 rf (nr h), fun h => K25 rf (nr h), fun h => K26 rf (nr h), fun h => K27 rf (nr h)⟩
    · have d5 := waits u6_5 hdep
      have e5_0 := f5 d5
      refine op_move o6 e5_0 ?_
      exact ⟨hf.put (by decide) _, hb, un, fun h => K0 rf (nr h), fun h => K1 rf (nr h), fun h => K2 rf (nr h), fun h => K3 rf (nr h), fun h => K4 rf (nr h), fun h => K5 rf (nr h), fun _ => eval_put_self (by rw [hz]; decide), fun h => K7 rf (nr h), fun h => K8 rf (nr h), fun h => K9 rf (nr h), fun h => K10 rf (nr h), fun h => K11 rf (nr h), fun h => K12 rf (nr h), fun h => K13 rf (nr h), fun h => K14 rf (nr h), fun h => K15 rf (nr h), fun h => K16 rf (nr h), fun h => K17 rf (nr h), fun h => K18 rf (nr h), fun h => K19 rf (nr h), fun h => K20 rf (nr h), fun h => K21 rf (nr h), fun h => K22 rf (nr h), fun h => K23 rf (nr h), fun h => K24 rf (nr h), fun h => K25 rf (nr h), fun h => K26 rf (nr h), fun h => K27 rf (nr h)⟩
    · have d6 := waits u7_6 hdep
      have e6_0 := f6 d6
      refine wpCan_val (v := .pointer (some ⟨P, 13, none⟩)) (w' := w) (o7.can o6 e6_0) (fun o ho => by unfold execOp; rw [ho]; dsimp only; rw [(hf.eval (by decide)).trans h3]; simp [go_sem]) ?_
      exact ⟨hf.put (by decide) _, hb, un, fun h => K0 rf (nr h), fun h => K1 rf (nr h), fun h => K2 rf (nr h), fun h => K3 rf (nr h), fun h => K4 rf (nr h), fun h => K5 rf (nr h), fun h => K6 rf (nr h), fun _ => eval_put_self (by rw [hz]; decide), fun h => K8 rf (nr h), fun h => K9 rf (nr h), fun h => K10 rf (nr h), fun h => K11 rf (nr h), fun h => K12 rf (nr h), fun h => K13 rf (nr h), fun h => K14 rf (nr h), fun h => K15 rf (nr h), fun h => K16 rf (nr h), fun h => K17 rf (nr h), fun h => K18 rf (nr h), fun h => K19 rf (nr h), fun h => K20 rf (nr h), fun h => K21 rf (nr h), fun h => K22 rf (nr h), fun h => K23 rf (nr h), fun h => K24 rf (nr h), fun h => K25 rf (nr h), fun h => K26 rf (nr h), fun h => K27 rf (nr h)⟩
    · have d7 := waits u8_7 hdep
      have e7_0 := f7 d7
      have d6 := waits u8_6 hdep
      have e6_0 := f6 d6
      refine can_load (v := .slice (some ⟨g, og, none⟩) n cap) (o8.can o6 e6_0) e7_0 (by have hc := (hS.below hb).cell 13 (.slice (some ⟨g, og, none⟩) n cap) rfl; simp [go_sem, hc]) ?_
      exact ⟨hf.put (by decide) _, hb, un, fun h => K0 rf (nr h), fun h => K1 rf (nr h), fun h => K2 rf (nr h), fun h => K3 rf (nr h), fun h => K4 rf (nr h), fun h => K5 rf (nr h), fun h => K6 rf (nr h), fun h => K7 rf (nr h), fun _ => eval_put_self (by rw [hz]; decide), fun h => K9 rf (nr h), fun h => K10 rf (nr h), fun h => K11 rf (nr h), fun h => K12 rf (nr h), fun h => K13 rf (nr h), fun h => K14 rf (nr h), fun h => K15 rf (nr h), fun h => K16 rf (nr h), fun h => K17 rf (nr h), fun h => K18 rf (nr h), fun h => K19 rf (nr h), fun h => K20 rf (nr h), fun h => K21 rf (nr h), fun h => K22 rf (nr h), fun h => K23 rf (nr h), fun h => K24 rf (nr h), fun h => K25 rf (nr h), fun h => K26 rf (nr h), fun h => K27 rf (nr h)⟩
    · have d6 := waits u9_6 hdep
      have e6_0 := f6 d6
      refine can_move (o9.can o6 e6_0) ((hf.eval (by decide)).trans h5) ?_
      exact ⟨hf.put (by decide) _, hb, un, fun h => K0 rf (nr h), fun h => K1 rf (nr h), fun h => K2 rf (nr h), fun h => K3 rf (nr h), fun h => K4 rf (nr h), fun h => K5 rf (nr h), fun h => K6 rf (nr h), fun h => K7 rf (nr h), fun h => K8 rf (nr h), fun _ => eval_put_self (by rw [hz]; decide), fun h => K10 rf (nr h), fun h => K11 rf (nr h), fun h => K12 rf (nr h), fun h => K13 rf (nr h), fun h => K14 rf (nr h), fun h => K15 rf (nr h), fun h => K16 rf (nr h), fun h => K17 rf (nr h), fun h => K18 rf (nr h), fun h => K19 rf (nr h), fun h => K20 rf (nr h), fun h => K21 rf (nr h), fun h => K22 rf (nr h), fun h => K23 rf (nr h), fun h => K24 rf (nr h), fun h => K25 rf (nr h), fun h => K26 rf (nr h), fun h => K27 rf (nr h)⟩
    · have d9 := waits u10_9 hdep
      have e9_0 := f9 d9
      have d6 := waits u10_6 hdep
      have e6_0 := f6 d6
      refine wpCan_val (v := .int .i64 ((u : Int) + 1)) (w' := w) (o10.can o6 e6_0) (fun o ho => by unfold execOp; rw [ho]; dsimp only; simp only [List.map_toArray, List.map_cons, List.map_nil, e9_0, e6_0, eval_const]; simp [go_sem, wrap1 hun hnn]) ?_
      exact ⟨hf.put (by decide) _, hb, un, fun h => K0 rf (nr h), fun h => K1 rf (nr h), fun h => K2 rf (nr h), fun h => K3 rf (nr h), fun h => K4 rf (nr h), fun h => K5 rf (nr h), fun h => K6 rf (nr h), fun h => K7 rf (nr h), fun h => K8 rf (nr h), fun h => K9 rf (nr h), fun _ => eval_put_self (by rw [hz]; decide), fun h => K11 rf (nr h), fun h => K12 rf (nr h), fun h => K13 rf (nr h), fun h => K14 rf (nr h), fun h => K15 rf (nr h), fun h => K16 rf (nr h), fun h => K17 rf (nr h), fun h => K18 rf (nr h), fun h => K19 rf (nr h), fun h => K20 rf (nr h), fun h => K21 rf (nr h), fun h => K22 rf (nr h), fun h => K23 rf (nr h), fun h => K24 rf (nr h), fun h => K25 rf (nr h), fun h => K26 rf (nr h), fun h => K27 rf (nr h)⟩
    · have d8 := waits u11_8 hdep
      have e8_0 := f8 d8
      have d10 := waits u11_10 hdep
      have e10_0 := f10 d10
      have d6 := waits u11_6 hdep
      have e6_0 := f6 d6
      refine wpCan_val (v := .pointer (some ⟨g, og + (u + 1), none⟩)) (w' := w) (o11.can o6 e6_0) (fun o ho => by unfold execOp; rw [ho]; dsimp only; simp only [List.map_toArray, List.map_cons, List.map_nil, e8_0, e10_0, e6_0, eval_const]; simp [go_sem, hix1, hix2, hix3]) ?_
      exact ⟨hf.put (by decide) _, hb, un, fun h => K0 rf (nr h), fun h => K1 rf (nr h), fun h => K2 rf (nr h), fun h => K3 rf (nr h), fun h => K4 rf (nr h), fun h => K5 rf (nr h), fun h => K6 rf (nr h), fun h => K7 rf (nr h), fun h => K8 rf (nr h), fun h => K9 rf (nr h), fun h => K10 rf (nr h), fun _ => eval_put_self (by rw [hz]; decide), fun h => K12 rf (nr h), fun h => K13 rf (nr h), fun h => K14 rf (nr h), fun h => K15 rf (nr h), fun h => K16 rf (nr h), fun h => K17 rf (nr h), fun h => K18 rf (nr h), fun h => K19 rf (nr h), fun h => K20 rf (nr h), fun h => K21 rf (nr h), fun h => K22 rf (nr h), fun h => K23 rf (nr h), fun h => K24 rf (nr h), fun h => K25 rf (nr h), fun h => K26 rf (nr h), fun h => K27 rf (nr h)⟩
    · have d11 := waits u12_11 hdep
      have e11_0 := f11 d11
      have d6 := waits u12_6 hdep
      have e6_0 := f6 d6
      refine can_load (v := .int .i64 X1) (o12.can o6 e6_0) e11_0 (by have hc := (hb.cell (p := ⟨g, og + (u + 1), none⟩) hg).trans hX1; simp [go_sem, hc]) ?_
      exact ⟨hf.put (by decide) _, hb, un, fun h => K0 rf (nr h), fun h => K1 rf (nr h), fun h => K2 rf (nr h), fun h => K3 rf (nr h), fun h => K4 rf (nr h), fun h => K5 rf (nr h), fun h => K6 rf (nr h), fun h => K7 rf (nr h), fun h => K8 rf (nr h), fun h => K9 rf (nr h), fun h => K10 rf (nr h), fun h => K11 rf (nr h), fun _ => eval_put_self (by rw [hz]; decide), fun h => K13 rf (nr h), fun h => K14 rf (nr h), fun h => K15 rf (nr h), fun h => K16 rf (nr h), fun h => K17 rf (nr h), fun h => K18 rf (nr h), fun h => K19 rf (nr h), fun h => K20 rf (nr h), fun h => K21 rf (nr h), fun h => K22 rf (nr h), fun h => K23 rf (nr h), fun h => K24 rf (nr h), fun h => K25 rf (nr h), fun h => K26 rf (nr h), fun h => K27 rf (nr h)⟩
    · have d6 := waits u13_6 hdep
      have e6_0 := f6 d6
      refine can_move (o13.can o6 e6_0) ((hf.eval (by decide)).trans h4) ?_
      exact ⟨hf.put (by decide) _, hb, un, fun h => K0 rf (nr h), fun h => K1 rf (nr h), fun h => K2 rf (nr h), fun h => K3 rf (nr h), fun h => K4 rf (nr h), fun h => K5 rf (nr h), fun h => K6 rf (nr h), fun h => K7 rf (nr h), fun h => K8 rf (nr h), fun h => K9 rf (nr h), fun h => K10 rf (nr h), fun h => K11 rf (nr h), fun h => K12 rf (nr h), fun _ => eval_put_self (by rw [hz]; decide), fun h => K14 rf (nr h), fun h => K15 rf (nr h), fun h => K16 rf (nr h), fun h => K17 rf (nr h), fun h => K18 rf (nr h), fun h => K19 rf (nr h), fun h => K20 rf (nr h), fun h => K21 rf (nr h), fun h => K22 rf (nr h), fun h => K23 rf (nr h), fun h => K24 rf (nr h), fun h => K25 rf (nr h), fun h => K26 rf (nr h), fun h => K27 rf (nr h)⟩
    · have d12 := waits u14_12 hdep
      have e12_0 := f12 d12
      have d13 := waits u14_13 hdep
      have e13_0 := f13 d13
      have d6 := waits u14_6 hdep
      have e6_0 := f6 d6
      refine wpCan_val (v := .bool true) (w' := w) (o14.can o6 e6_0) (fun o ho => by unfold execOp; rw [ho]; dsimp only; simp only [List.map_toArray, List.map_cons, List.map_nil, e12_0, e13_0, e6_0, eval_const]; simp [go_sem, hiX]) ?_
      exact ⟨hf.put (by decide) _, hb, un, fun h => K0 rf (nr h), fun h => K1 rf (nr h), fun h => K2 rf (nr h), fun h => K3 rf (nr h), fun h => K4 rf (nr h), fun h => K5 rf (nr h), fun h => K6 rf (nr h), fun h => K7 rf (nr h), fun h => K8 rf (nr h), fun h => K9 rf (nr h), fun h => K10 rf (nr h), fun h => K11 rf (nr h), fun h => K12 rf (nr h), fun h => K13 rf (nr h), fun _ => eval_put_self (by rw [hz]; decide), fun h => K15 rf (nr h), fun h => K16 rf (nr h), fun h => K17 rf (nr h), fun h => K18 rf (nr h), fun h => K19 rf (nr h), fun h => K20 rf (nr h), fun h => K21 rf (nr h), fun h => K22 rf (nr h), fun h => K23 rf (nr h), fun h => K24 rf (nr h), fun h => K25 rf (nr h), fun h => K26 rf (nr h), fun h => K27 rf (nr h)⟩
    · have d6 := waits u15_6 hdep
      have e6_0 := f6 d6
      have d14 := waits u15_14 hdep
      have e14_0 := f14 d14
      refine wpOp_val (v := .bool true) (w' := w) o15 (fun o ho => by unfold execOp; rw [ho]; dsimp only; simp only [List.map_toArray, List.map_cons, List.map_nil, e6_0, e14_0, eval_const]; simp [go_sem]) ?_
      exact ⟨hf.put (by decide) _, hb, un, fun h => K0 rf (nr h), fun h => K1 rf (nr h), fun h => K2 rf (nr h), fun h => K3 rf (nr h), fun h => K4 rf (nr h), fun h => K5 rf (nr h), fun h => K6 rf (nr h), fun h => K7 rf (nr h), fun h => K8 rf (nr h), fun h => K9 rf (nr h), fun h => K10 rf (nr h), fun h => K11 rf (nr h), fun h => K12 rf (nr h), fun h => K13 rf (nr h), fun h => K14 rf (nr h), fun _ => eval_put_self (by rw [hz]; decide), fun h => K16 rf (nr h), fun h => K17 rf (nr h), fun h => K18 rf (nr h), fun h => K19 rf (nr h), fun h => K20 rf (nr h), fun h => K21 rf (nr h), fun h => K22 rf (nr h), fun h => K23 rf (nr h), fun h => K24 rf (nr h), fun h => K25 rf (nr h), fun h => K26 rf (nr h), fun h => K27 rf (nr h)⟩
    · have d15 := waits u16_15 hdep
      have e15_0 := f15 d15
      refine op_move o16 e15_0 ?_
      exact ⟨hf.put (by decide) _, hb, un, fun h => K0 rf (nr h), fun h => K1 rf (nr h), fun h => K2 rf (nr h), fun h => K3 rf (nr h), fun h => K4 rf (nr h), fun h => K5 rf (nr h), fun h => K6 rf (nr h), fun h => K7 rf (nr h), fun h => K8 rf (nr h), fun h => K9 rf (nr h), fun h => K10 rf (nr h), fun h => K11 rf (nr h), fun h => K12 rf (nr h), fun h => K13 rf (nr h), fun h => K14 rf (nr h), fun h => K15 rf (nr h), fun _ => eval_put_self (by rw [hz]; decide), fun h => K17 rf (nr h), fun h => K18 rf (nr h), fun h => K19 rf (nr h), fun h => K20 rf (nr h), fun h => K21 rf (nr h), fun h => K22 rf (nr h), fun h => K23 rf (nr h), fun h => K24 rf (nr h), fun h => K25 rf (nr h), fun h => K26 rf (nr h), fun h => K27 rf (nr h)⟩
    · have d16 := waits u17_16 hdep
      have e16_0 := f16 d16
      refine can_load (o17.can o16 e16_0) ((hf.eval (by decide)).trans h3) (load_part (hS.below hb) 0 (shotCells c v1 v2 (.slice (some ⟨g, og, none⟩) n cap) v4 j) (by kernel_rfl) (by kernel_rfl) (by kernel_rfl)) ?_
      exact ⟨hf.put (by decide) _, hb, un, fun h => K0 rf (nr h), fun h => K1 rf (nr h), fun h => K2 rf (nr h), fun h => K3 rf (nr h), fun h => K4 rf (nr h), fun h => K5 rf (nr h), fun h => K6 rf (nr h), fun h => K7 rf (nr h), fun h => K8 rf (nr h), fun h => K9 rf (nr h), fun h => K10 rf (nr h), fun h => K11 rf (nr h), fun h => K12 rf (nr h), fun h => K13 rf (nr h), fun h => K14 rf (nr h), fun h => K15 rf (nr h), fun h => K16 rf (nr h), fun _ => eval_put_self (by rw [hz]; decide), fun h => K18 rf (nr h), fun h => K19 rf (nr h), fun h => K20 rf (nr h), fun h => K21 rf (nr h), fun h => K22 rf (nr h), fun h => K23 rf (nr h), fun h => K24 rf (nr h), fun h => K25 rf (nr h), fun h => K26 rf (nr h), fun h => K27 rf (nr h)⟩
    · have d16 := waits u18_16 hdep
      have e16_0 := f16 d16
      refine wpCan_val (v := .pointer (some ⟨P, 13, none⟩)) (w' := w) (o18.can o16 e16_0) (fun o ho => by unfold execOp; rw [ho]; dsimp only; rw [(hf.eval (by decide)).trans h3]; simp [go_sem]) ?_
      exact ⟨hf.put (by decide) _, hb, un, fun h => K0 rf (nr h), fun h => K1 rf (nr h), fun h => K2 rf (nr h), fun h => K3 rf (nr h), fun h => K4 rf (nr h), fun h => K5 rf (nr h), fun h => K6 rf (nr h), fun h => K7 rf (nr h), fun h => K8 rf (nr h), fun h => K9 rf (nr h), fun h => K10 rf (nr h), fun h => K11 rf (nr h), fun h => K12 rf (nr h), fun h => K13 rf (nr h), fun h => K14 rf (nr h), fun h => K15 rf (nr h), fun h => K16 rf (nr h), fun h => K17 rf (nr h), fun _ => eval_put_self (by rw [hz]; decide), fun h => K19 rf (nr h), fun h => K20 rf (nr h), fun h => K21 rf (nr h), fun h => K22 rf (nr h), fun h => K23 rf (nr h), fun h => K24 rf (nr h), fun h => K25 rf (nr h), fun h => K26 rf (nr h), fun h => K27 rf (nr h)⟩
    · have d18 := waits u19_18 hdep
      have e18_0 := f18 d18
      have d16 := waits u19_16 hdep
      have e16_0 := f16 d16
      refine can_load (v := .slice (some ⟨g, og, none⟩) n cap) (o19.can o16 e16_0) e18_0 (by have hc := (hS.below hb).cell 13 (.slice (some ⟨g, og, none⟩) n cap) rfl; simp [go_sem, hc]) ?_
      exact ⟨hf.put (by decide) _, hb, un, fun h => K0 rf (nr h), fun h => K1 rf (nr h), fun h => K2 rf (nr h), fun h => K3 rf (nr h), fun h => K4 rf (nr h), fun h => K5 rf (nr h), fun h => K6 rf (nr h), fun h => K7 rf (nr h), fun h => K8 rf (nr h), fun h => K9 rf (nr h), fun h => K10 rf (nr h), fun h => K11 rf (nr h), fun h => K12 rf (nr h), fun h => K13 rf (nr h), fun h => K14 rf (nr h), fun h => K15 rf (nr h), fun h => K16 rf (nr h), fun h => K17 rf (nr h), fun h => K18 rf (nr h), fun _ => eval_put_self (by rw [hz]; decide), fun h => K20 rf (nr h), fun h => K21 rf (nr h), fun h => K22 rf (nr h), fun h => K23 rf (nr h), fun h => K24 rf (nr h), fun h => K25 rf (nr h), fun h => K26 rf (nr h), fun h => K27 rf (nr h)⟩
    · have d16 := waits u20_16 hdep
      have e16_0 := f16 d16
      refine can_move (o20.can o16 e16_0) ((hf.eval (by decide)).trans h5) ?_
      exact ⟨hf.put (by decide) _, hb, un, fun h => K0 rf (nr h), fun h => K1 rf (nr h), fun h => K2 rf (nr h), fun h => K3 rf (nr h), fun h => K4 rf (nr h), fun h => K5 rf (nr h), fun h => K6 rf (nr h), fun h => K7 rf (nr h), fun h => K8 rf (nr h), fun h => K9 rf (nr h), fun h => K10 rf (nr h), fun h => K11 rf (nr h), fun h => K12 rf (nr h), fun h => K13 rf (nr h), fun h => K14 rf (nr h), fun h => K15 rf (nr h), fun h => K16 rf (nr h), fun h => K17 rf (nr h), fun h => K18 rf (nr h), fun h => K19 rf (nr h), fun _ => eval_put_self (by rw [hz]; decide), fun h => K21 rf (nr h), fun h => K22 rf (nr h), fun h => K23 rf (nr h), fun h => K24 rf (nr h), fun h => K25 rf (nr h), fun h => K26 rf (nr h), fun h => K27 rf (nr h)⟩
    · have d19 := waits u21_19 hdep
      have e19_0 := f19 d19
      have d20 := waits u21_20 hdep
      have e20_0 := f20 d20
      have d16 := waits u21_16 hdep
      have e16_0 := f16 d16
      refine wpCan_val (v := .pointer (some ⟨g, og + u, none⟩)) (w' := w) (o21.can o16 e16_0) (fun o ho => by unfold execOp; rw [ho]; dsimp only; simp only [List.map_toArray, List.map_cons, List.map_nil, e19_0, e20_0, e16_0, eval_const]; simp [go_sem, hix]) ?_
      exact ⟨hf.put (by decide) _, hb, un, fun h => K0 rf (nr h), fun h => K1 rf (nr h), fun h => K2 rf (nr h), fun h => K3 rf (nr h), fun h => K4 rf (nr h), fun h => K5 rf (nr h), fun h => K6 rf (nr h), fun h => K7 rf (nr h), fun h => K8 rf (nr h), fun h => K9 rf (nr h), fun h => K10 rf (nr h), fun h => K11 rf (nr h), fun h => K12 rf (nr h), fun h => K13 rf (nr h), fun h => K14 rf (nr h), fun h => K15 rf (nr h), fun h => K16 rf (nr h), fun h => K17 rf (nr h), fun h => K18 rf (nr h), fun h => K19 rf (nr h), fun h => K20 rf (nr h), fun _ => eval_put_self (by rw [hz]; decide), fun h => K22 rf (nr h), fun h => K23 rf (nr h), fun h => K24 rf (nr h), fun h => K25 rf (nr h), fun h => K26 rf (nr h), fun h => K27 rf (nr h)⟩
    · have d21 := waits u22_21 hdep
      have e21_0 := f21 d21
      have d16 := waits u22_16 hdep
      have e16_0 := f16 d16
      refine can_load (v := .int .i64 X) (o22.can o16 e16_0) e21_0 (by have hc := (hb.cell (p := ⟨g, og + u, none⟩) hg).trans hX; simp [go_sem, hc]) ?_
      exact ⟨hf.put (by decide) _, hb, un, fun h => K0 rf (nr h), fun h => K1 rf (nr h), fun h => K2 rf (nr h), fun h => K3 rf (nr h), fun h => K4 rf (nr h), fun h => K5 rf (nr h), fun h => K6 rf (nr h), fun h => K7 rf (nr h), fun h => K8 rf (nr h), fun h => K9 rf (nr h), fun h => K10 rf (nr h), fun h => K11 rf (nr h), fun h => K12 rf (nr h), fun h => K13 rf (nr h), fun h => K14 rf (nr h), fun h => K15 rf (nr h), fun h => K16 rf (nr h), fun h => K17 rf (nr h), fun h => K18 rf (nr h), fun h => K19 rf (nr h), fun h => K20 rf (nr h), fun h => K21 rf (nr h), fun _ => eval_put_self (by rw [hz]; decide), fun h => K23 rf (nr h), fun h => K24 rf (nr h), fun h => K25 rf (nr h), fun h => K26 rf (nr h), fun h => K27 rf (nr h)⟩
    · have d17 := waits u23_17 hdep
      have e17_0 := f17 d17
      have d22 := waits u23_22 hdep
      have e22_0 := f22 d22
      have d16 := waits u23_16 hdep
      have e16_0 := f16 d16
      refine can_call (o23.can o16 e16_0) (by simp only [List.map_toArray, List.map_cons, List.map_nil, eval_const, e17_0, e22_0]) rfl ((H _ hb).mono ?_)
      rintro e w' ⟨rfl, hbw⟩
      have hbz := hbw.size
      have hb' := belowStepR hb hbw (Nat.le_refl _)
      refine ⟨_, rfl, ?_⟩
      exact ⟨hf.put (by decide) _, hb', un, fun h => K0 hbw (nr h), fun h => K1 hbw (nr h), fun h => K2 hbw (nr h), fun h => K3 hbw (nr h), fun h => K4 hbw (nr h), fun h => K5 hbw (nr h), fun h => K6 hbw (nr h), fun h => K7 hbw (nr h), fun h => K8 hbw (nr h), fun h => K9 hbw (nr h), fun h => K10 hbw (nr h), fun h => K11 hbw (nr h), fun h => K12 hbw (nr h), fun h => K13 hbw (nr h), fun h => K14 hbw (nr h), fun h => K15 hbw (nr h), fun h => K16 hbw (nr h), fun h => K17 hbw (nr h), fun h => K18 hbw (nr h), fun h => K19 hbw (nr h), fun h => K20 hbw (nr h), fun h => K21 hbw (nr h), fun h => K22 hbw (nr h), fun _ => eval_put_self (by rw [hz]; decide), fun h => K24 hbw (nr h), fun h => K25 hbw (nr h), fun h => K26 hbw (nr h), fun h => K27 hbw (nr h)⟩
    · have d16 := waits u24_16 hdep
      have e16_0 := f16 d16
      refine can_move (o24.can o16 e16_0) ((hf.eval (by decide)).trans h5) ?_
      exact ⟨hf.put (by decide) _, hb, un, fun h => K0 rf (nr h), fun h => K1 rf (nr h), fun h => K2 rf (nr h), fun h => K3 rf (nr h), fun h => K4 rf (nr h), fun h => K5 rf (nr h), fun h => K6 rf (nr h), fun h => K7 rf (nr h), fun h => K8 rf (nr h), fun h => K9 rf (nr h), fun h => K10 rf (nr h), fun h => K11 rf (nr h), fun h => K12 rf (nr h), fun h => K13 rf (nr h), fun h => K14 rf (nr h), fun h => K15 rf (nr h), fun h => K16 rf (nr h), fun h => K17 rf (nr h), fun h => K18 rf (nr h), fun h => K19 rf (nr h), fun h => K20 rf (nr h), fun h => K21 rf (nr h), fun h => K22 rf (nr h), fun h => K23 rf (nr h), fun _ => eval_put_self (by rw [hz]; decide), fun h => K25 rf (nr h), fun h => K26 rf (nr h), fun h => K27 rf (nr h)⟩
    · have d23 := waits u25_23 hdep
      have e23_0 := f23 d23
      have d24 := waits u25_24 hdep
      have e24_0 := f24 d24
      have d16 := waits u25_16 hdep
      have e16_0 := f16 d16
      refine wpCan_val (v := .bool true) (w' := w) (o25.can o16 e16_0) (fun o ho => by unfold execOp; rw [ho]; dsimp only; simp only [List.map_toArray, List.map_cons, List.map_nil, e23_0, e24_0, e16_0, eval_const]; simp [go_sem]) ?_
      exact ⟨hf.put (by decide) _, hb, un, fun h => K0 rf (nr h), fun h => K1 rf (nr h), fun h => K2 rf (nr h), fun h => K3 rf (nr h), fun h => K4 rf (nr h), fun h => K5 rf (nr h), fun h => K6 rf (nr h), fun h => K7 rf (nr h), fun h => K8 rf (nr h), fun h => K9 rf (nr h), fun h => K10 rf (nr h), fun h => K11 rf (nr h), fun h => K12 rf (nr h), fun h => K13 rf (nr h), fun h => K14 rf (nr h), fun h => K15 rf (nr h), fun h => K16 rf (nr h), fun h => K17 rf (nr h), fun h => K18 rf (nr h), fun h => K19 rf (nr h), fun h => K20 rf (nr h), fun h => K21 rf (nr h), fun h => K22 rf (nr h), fun h => K23 rf (nr h), fun h => K24 rf (nr h), fun _ => eval_put_self (by rw [hz]; decide), fun h => K26 rf (nr h), fun h => K27 rf (nr h)⟩
    · have d16 := waits u26_16 hdep
      have e16_0 := f16 d16
      have d25 := waits u26_25 hdep
      have e25_0 := f25 d25
      refine wpOp_val (v := .bool true) (w' := w) o26 (fun o ho => by unfold execOp; rw [ho]; dsimp only; simp only [List.map_toArray, List.map_cons, List.map_nil, e16_0, e25_0, eval_const]; simp [go_sem]) ?_
      exact ⟨hf.put (by decide) _, hb, un, fun h => K0 rf (nr h), fun h => K1 rf (nr h), fun h => K2 rf (nr h), fun h => K3 rf (nr h), fun h => K4 rf (nr h), fun h => K5 rf (nr h), fun h => K6 rf (nr h), fun h => K7 rf (nr h), fun h => K8 rf (nr h), fun h => K9 rf (nr h), fun h => K10 rf (nr h), fun h => K11 rf (nr h), fun h => K12 rf (nr h), fun h => K13 rf (nr h), fun h => K14 rf (nr h), fun h => K15 rf (nr h), fun h => K16 rf (nr h), fun h => K17 rf (nr h), fun h => K18 rf (nr h), fun h => K19 rf (nr h), fun h => K20 rf (nr h), fun h => K21 rf (nr h), fun h => K22 rf (nr h), fun h => K23 rf (nr h), fun h => K24 rf (nr h), fun h => K25 rf (nr h), fun _ => eval_put_self (by rw [hz]; decide), fun h => K27 rf (nr h)⟩
    · have d26 := waits u27_26 hdep
      have e26_0 := f26 d26
      refine op_assign o27 e26_0 ?_
      exact ⟨hf.put (by decide) _, hb, un, fun h => K0 rf (nr h), fun h => K1 rf (nr h), fun h => K2 rf (nr h), fun h => K3 rf (nr h), fun h => K4 rf (nr h), fun h => K5 rf (nr h), fun h => K6 rf (nr h), fun h => K7 rf (nr h), fun h => K8 rf (nr h), fun h => K9 rf (nr h), fun h => K10 rf (nr h), fun h => K11 rf (nr h), fun h => K12 rf (nr h), fun h => K13 rf (nr h), fun h => K14 rf (nr h), fun h => K15 rf (nr h), fun h => K16 rf (nr h), fun h => K17 rf (nr h), fun h => K18 rf (nr h), fun h => K19 rf (nr h), fun h => K20 rf (nr h), fun h => K21 rf (nr h), fun h => K22 rf (nr h), fun h => K23 rf (nr h), fun h => K24 rf (nr h), fun h => K25 rf (nr h), fun h => K26 rf (nr h), fun _ => eval_put_self (by rw [hz]; decide)⟩
  · intro D a w hD hI
    obtain ⟨hf, hb, un, f0, f1, f2, f3, f4, f5, f6, f7, f8, f9, f10, f11, f12, f13, f14, f15, f16, f17, f18, f19, f20, f21, f22, f23, f24, f25, f26, f27⟩ := hI
    rw [hn] at hD
    have e0_0 := f0 (hD 0 (by decide))
    have e1_0 := f1 (hD 1 (by decide))
    have e2_0 := f2 (hD 2 (by decide))
    have e3_0 := f3 (hD 3 (by decide))
    have e4_0 := f4 (hD 4 (by decide))
    have e5_0 := f5 (hD 5 (by decide))
    have e6_0 := f6 (hD 6 (by decide))
    have e7_0 := f7 (hD 7 (by decide))
    have e8_0 := f8 (hD 8 (by decide))
    have e9_0 := f9 (hD 9 (by decide))
    have e10_0 := f10 (hD 10 (by decide))
    have e11_0 := f11 (hD 11 (by decide))
    have e12_0 := f12 (hD 12 (by decide))
    have e13_0 := f13 (hD 13 (by decide))
    have e14_0 := f14 (hD 14 (by decide))
    have e15_0 := f15 (hD 15 (by decide))
    have e16_0 := f16 (hD 16 (by decide))
    have e17_0 := f17 (hD 17 (by decide))
    have e18_0 := f18 (hD 18 (by decide))
    have e19_0 := f19 (hD 19 (by decide))
    have e20_0 := f20 (hD 20 (by decide))
    have e21_0 := f21 (hD 21 (by decide))
    have e22_0 := f22 (hD 22 (by decide))
    have e23_0 := f23 (hD 23 (by decide))
    have e24_0 := f24 (hD 24 (by decide))
    have e25_0 := f25 (hD 25 (by decide))
    have e26_0 := f26 (hD 26 (by decide))
    have e27_0 := f27 (hD 27 (by decide))
    exact hQ a w hf ⟨e27_0, hb⟩
  · exact ⟨FrameIs.refl _ _, (Below.refl _ _).drew, (), fun h => False.elim h, fun h => False.elim h, fun h => False.elim h, fun h => False.elim h, fun h => False.elim h, fun h => False.elim h, fun h => False.elim h, fun h => False.elim h, fun h => False.elim h, fun h => False.elim h, fun h => False.elim h, fun h => False.elim h, fun h => False.elim h, fun h => False.elim h, fun h => False.elim h, fun h => False.elim h, fun h => False.elim h, fun h => False.elim h, fun h => False.elim h, fun h => False.elim h, fun h => False.elim h, fun h => False.elim h, fun h => False.elim h, fun h => False.elim h, fun h => False.elim h, fun h => False.elim h, fun h => False.elim h, fun h => False.elim h⟩

end Go.Proofs.Ytckfdbjjjgfbfaa
