/-
  The regions of Run, the model's and the program's own, that leave their order open.
-/
import Derived.Test.YtckfdbjjjgfbfaaURegMore
import Derived.Test.YtckfdbjjjgfbfaaURunA
namespace Go.Proofs.Ytckfdbjjjgfbfaa
set_option linter.unusedVariables false
set_option linter.unusedSimpArgs false
open Go.RowKit

theorem op_append {P : Program} {ops : Array Oper} {Q : Exit → Act → World → Prop} {K : Act → World → Prop} {a : Act} {w w' : World} {i d : Nat} {t : TypeId} {x y : Operand} {p q v : Value}
    (hop : IsOp ops i (some d) (.call { callee := .builtin .append, args := #[x, y], argTypes := #[t, t] })) (hx : a.eval x = p) (hy : a.eval y = q) (hr : ∀ ty, (Builtin.append_ #[t, t] ty #[p, q]).run P w = .ok v w') (hK : K (a.put (some d) v) w') : wpOp P ops Q i K a w :=
  wpOp_val hop (fun o ho => by
    unfold execOp
    rw [ho]
    simp only [resolve, invoke, builtin, Sem.run_bind, Sem.run_pure, Result.andThen_ok, List.map_toArray, List.map_cons, List.map_nil, hx, hy, hr]) hK

theorem copy_run {w : World} {gb : Nat} {L : List Nat} {ax : Option Addr} (hbx : BoxN w gb 5 #[]) (hl : L.length ≤ 1048576) (h0 : 0 < L.length) (hr : RowB w ax L) (cx : Nat) :
    ∃ cap' w', (∀ ty, (Builtin.append_ #[22, 22] ty #[.slice (some ⟨gb, 0, none⟩) 0 0, .slice ax L.length cx]).run Try.prog w = .ok (.slice (some ⟨w.heap.size, 0, none⟩) L.length cap') w') ∧ SegB w' w.heap.size (w.heap.size + 1) (.slice (some ⟨w.heap.size, 0, none⟩) L.length cap') L ∧ Below w.heap.size w w' ∧ w.heap.size + 1 ≤ w'.heap.size := by
  obtain ⟨i0, hi, hz0, hz1, hz2⟩ := info_parts infoU8
  obtain ⟨g, o, rfl, hg, hc⟩ := hr.2 h0
  have hnews : ∀ j u, (L.map u8V)[j]? = some u → w.cell? ((⟨g, o, none⟩ : Addr).add j) = some u := fun j u hu => by
    rw [Addr.add_mid]
    have hj : j < L.length := by simpa using (List.getElem?_eq_some_iff.1 hu).1
    rw [hc j hj, ← hu]
    simp [List.getD, hj]
  have hrun := fun ty => run_append_grow (P := Try.prog) w 22 ty 5 i0 (.int .u8 0) Try.underlying22 hi hz0 ⟨gb, 0, none⟩ 0 0 [] (by simp) (fun j v hv => by simp at hv) ⟨g, o, none⟩ L.length cx (L.map u8V) (by simp [hz1]) hnews (by omega) (by omega) (by rw [hz2, Nat.zero_add, nextslicecap_zero h0]; omega)
  have hown : w.ownsRow 0 5 1 (.slice (some ⟨gb, 0, none⟩) 0 0) 0 [] := ⟨by simp, .inr ⟨gb, 0, #[], rfl, Nat.zero_le _, hbx, Nat.le_refl _, by unfold maxLen; omega, by simp, by simp⟩⟩
  obtain ⟨g', cap', w', hr2, hown2, hg2, hat, hlt⟩ := run_append_lies (P := Try.prog) w 22 0 0 5 i0 (.int .u8 0) 1 1 Try.underlying22 hi hz0 hz1 hz2 rfl (by decide) (.slice (some ⟨gb, 0, none⟩) 0 0) 0 [] hown ⟨g, o, none⟩ L.length cx (L.map u8V) (by simp) hnews (fun u hu => u8V_one L u hu) h0 (by unfold maxLen; omega) (by omega) (Nat.zero_le _) w.heap.size rfl
  have h2 := hrun 0
  simp only [Nat.zero_add] at hr2 h2 hrun hown2
  rw [hr2] at h2
  simp only [Result.ok.injEq, Value.slice.injEq, Option.some.injEq, Addr.mk.injEq, and_true, true_and] at h2
  obtain ⟨⟨rfl, rfl⟩, rfl⟩ := h2
  refine ⟨_, _, hrun, ⟨⟨hr.1, ownsRow_up (base := 0) (by simpa using hown2) (fun k ek => by simp only [Value.ownBlock, Option.some.injEq] at ek; omega)⟩, fun k ek => by simp only [Value.ownBlock, Option.some.injEq] at ek; omega⟩, ((Below.refl _ w).drew).alloc (by simp) _, by simp⟩

theorem loadSl {w : World} {B : Nat} {a : Option Addr} {n c : Nat} (h : BoxN w B 30 #[.slice a n c]) : (Instr.loadAt 22 (.pointer (some ⟨B, 0, none⟩))).run Try.prog w = .ok (.slice a n c) w := by
  have g0 := h.cell 0 _ rfl
  simp [go_sem, g0]

theorem loadIC {w : World} {B : Nat} {c : CpuN} (h : BoxN w B 28 (cpuCells c)) : (Instr.loadAt 28 (.pointer (some ⟨B, 0, none⟩))).run Try.prog w = .ok (cpuV c) w := load_part h 0 (cpuCells c) (by kernel_rfl) (by kernel_rfl) (by kernel_rfl)

theorem allocIS (w : World) : ∃ cs : Array Value, (Instr.alloc 35 true (.tuple #[])).run Try.prog w = .ok (.pointer (some ⟨w.heap.size, 0, none⟩)) (w.alloc (.cells cs 35)) ∧ cs.size = 16 := by
  refine ⟨#[.int .u8 0, .int .u8 0, .int .u8 0, .int .u8 0, .int .u16 0, .bool false, .bool false, .bool false, .bool false, .bool false, .bool false, .slice none 0 0, .slice none 0 0, .slice none 0 0, .slice none 0 0, .bool false], ?_, rfl⟩
  simp [go_sem]

theorem storeIS {w : World} {B : Nat} {c : CpuN} {a : Option Addr} {n k : Nat} {cs : Array Value} (h : BoxN w B 35 cs) (hz : cs.size = 16) : ∃ w', (Instr.storeAt 35 (.pointer (some ⟨B, 0, none⟩)) (.agg (shotCells c (.slice a n k) (.slice none 0 0) (.slice none 0 0) (.slice none 0 0) false))).run Try.prog w = .ok () w' ∧ BoxN w' B 35 (shotCells c (.slice a n k) (.slice none 0 0) (.slice none 0 0) (.slice none 0 0) false) ∧ Span B (B + 1) w w' :=
  store_whole (vs := shotCells c (.slice a n k) (.slice none 0 0) (.slice none 0 0) (.slice none 0 0) false) h hz (by kernel_rfl) (by kernel_rfl)

theorem specRunReg_ops (ops : Array Oper) (h : regionOps 3 (Try.f21.body.getD .skip) = some ops) : backward ops = true ∧ ops.size = 9 ∧ IsOp ops 0 (some 27) (.load 28 (.tmp 4)) ∧ IsOp ops 1 (some 28) (.buildSlice 22 0 #[]) ∧ IsOp ops 2 (some 29) (.fieldAddr 30 (.tmp 5) 0) ∧ IsOp ops 3 (some 30) (.load 22 (.tmp 29)) ∧ IsOp ops 4 (some 31) (.call { callee := .builtin .append, args := #[.tmp 28, .tmp 30], argTypes := #[22, 22] }) ∧ IsOp ops 5 (some 32) (.build 30 #[(0, .tmp 31)]) ∧ IsOp ops 6 (some 33) (.build 35 #[(0, .tmp 27), (1, .tmp 32)]) ∧ IsOp ops 7 (some 9) (.alloc 35) ∧ IsOp ops 8 none (.store 35 (.tmp 9) (.tmp 33)) ∧ Waits ops 3 2 ∧ Waits ops 4 1 ∧ Waits ops 4 3 ∧ Waits ops 5 4 ∧ Waits ops 6 0 ∧ Waits ops 6 5 ∧ Waits ops 8 7 ∧ Waits ops 8 6 := by
  obtain rfl : ops = (regionOps 3 (Try.f21.body.getD .skip)).getD #[] := by rw [h]; rfl
  exact ⟨by kernel_rfl, by kernel_rfl, by unfold IsOp; kernel_rfl, by unfold IsOp; kernel_rfl, by unfold IsOp; kernel_rfl, by unfold IsOp; kernel_rfl, by unfold IsOp; kernel_rfl, by unfold IsOp; kernel_rfl, by unfold IsOp; kernel_rfl, by unfold IsOp; kernel_rfl, by unfold IsOp; kernel_rfl, by unfold Waits; kernel_rfl, by unfold Waits; kernel_rfl, by unfold Waits; kernel_rfl, by unfold Waits; kernel_rfl, by unfold Waits; kernel_rfl, by unfold Waits; kernel_rfl, by unfold Waits; kernel_rfl, by unfold Waits; kernel_rfl⟩

abbrev specRunReg_I (c : CpuN) (L : List Nat) (sa : Option Addr) (cap : Nat) (R : Nat) (V : World) (a0 : Act) (D : Nat → Prop) (a : Act) (w : World) : Prop :=
  FrameIs a0 [9, 27, 28, 29, 30, 31, 32, 33] a ∧ Below V.heap.size V w ∧ ∃ (g : Nat) (mc : Nat) (b0 : Nat) (P : Nat), (D 0 → a.eval (.tmp 27) = cpuV c) ∧ (D 1 → a.eval (.tmp 28) = .slice (some ⟨b0, 0, none⟩) 0 0 ∧ (BoxN w b0 5 #[]) ∧ b0 + 1 ≤ w.heap.size) ∧ (D 2 → a.eval (.tmp 29) = .pointer (some ⟨R, 0, none⟩)) ∧ (D 3 → a.eval (.tmp 30) = .slice sa L.length cap) ∧ (D 4 → a.eval (.tmp 31) = .slice (some ⟨g, 0, none⟩) L.length mc ∧ SegB w g (g + 1) (.slice (some ⟨g, 0, none⟩) L.length mc) (L) ∧ (V.heap.size ≤ g) ∧ g + 1 ≤ w.heap.size ∧ D 1) ∧ (D 5 → a.eval (.tmp 32) = .agg #[.slice (some ⟨g, 0, none⟩) L.length mc] ∧ D 1 ∧ D 4) ∧ (D 6 → a.eval (.tmp 33) = .agg (shotCells c (.slice (some ⟨g, 0, none⟩) L.length mc) (.slice none 0 0) (.slice none 0 0) (.slice none 0 0) false) ∧ D 1 ∧ D 4) ∧ (D 7 → a.eval (.tmp 9) = .pointer (some ⟨P, 0, none⟩) ∧ (V.heap.size ≤ P) ∧ (∃ cs : Array Value, BoxN w P 35 cs ∧ cs.size = 16) ∧ P + 1 ≤ w.heap.size) ∧ (D 8 → BoxN w P 35 (shotCells c (.slice (some ⟨g, 0, none⟩) L.length mc) (.slice none 0 0) (.slice none 0 0) (.slice none 0 0) false) ∧ (V.heap.size ≤ P) ∧ D 1 ∧ D 4 ∧ D 7) ∧ (D 1 → D 7 → (b0 + 1 ≤ P ∨ P + 1 ≤ b0)) ∧ (D 4 → D 7 → (g + 1 ≤ P ∨ P + 1 ≤ g))

set_option maxRecDepth 100000 in
set_option maxHeartbeats 4000000 in
theorem specRunReg (c : CpuN) (L : List Nat) (sa : Option Addr) (cap : Nat) (hl : L.length ≤ 1048576) (h0 : 0 < L.length) (V : World) (C R : Nat) (hC : BoxN V C 28 (cpuCells c)) (hR : BoxN V R 30 #[.slice sa L.length cap]) (hrow : RowB V sa L) (a0 : Act) (h4 : a0.eval (.tmp 4) = .pointer (some ⟨C, 0, none⟩)) (h5 : a0.eval (.tmp 5) = .pointer (some ⟨R, 0, none⟩)) (hsz : a0.tmps.size = 124) (Q : Exit → Act → World → Prop)
    (hQ : ∀ a w, FrameIs a0 [9, 27, 28, 29, 30, 31, 32, 33] a → (∃ g mc P, a.eval (.tmp 9) = .pointer (some ⟨P, 0, none⟩) ∧ BoxN w P 35 (shotCells c (.slice (some ⟨g, 0, none⟩) L.length mc) (.slice none 0 0) (.slice none 0 0) (.slice none 0 0) false) ∧ SegB w g (g + 1) (.slice (some ⟨g, 0, none⟩) L.length mc) L ∧ (V.heap.size ≤ g ∧ V.heap.size ≤ P ∧ g ≠ P ∧ g < w.heap.size ∧ P < w.heap.size) ∧ Below V.heap.size V w) → Q .normal a w)
    (ops : Array Oper) (hops : regionOps 3 (Try.f21.body.getD .skip) = some ops) (id : Nat) : (Code.region id ops true).wp Try.prog Q a0 V := by
  obtain ⟨hbk, hn, o0, o1, o2, o3, o4, o5, o6, o7, o8, u3_2, u4_1, u4_3, u5_4, u6_0, u6_5, u8_7, u8_6⟩ := specRunReg_ops ops hops
  clear hops
  refine wp_region_facts (by kernel_rfl) hbk (specRunReg_I c L sa cap R V a0) ?_ ?_ id a0 V ?_
  · intro i hin D a w hnd hdep hI
    obtain ⟨hf, hb, g, mc, b0, P, f0, f1, f2, f3, f4, f5, f6, f7, f8, x0, x1⟩ := hI
    rw [hn] at hin
    have hz : a.tmps.size = 124 := hf.size.trans hsz
    have hbs := hb.size
    have rf := Below.refl w.heap.size w
    have K0 : ∀ {d : Nat} {v : Value} {w' : World}, Below w.heap.size w w' → D 0 → (hd : 27 ≠ d := by decide) → (a.put (some d) v).eval (.tmp 27) = cpuV c := fun {d v} {w'} hbw h hd => by have g0 := f0 h; exact ((eval_put_ne hd).trans g0)
    have K1 : ∀ {d : Nat} {v : Value} {w' : World}, Below w.heap.size w w' → D 1 → (hd : 28 ≠ d := by decide) → (a.put (some d) v).eval (.tmp 28) = .slice (some ⟨b0, 0, none⟩) 0 0 ∧ (BoxN w' b0 5 #[]) ∧ b0 + 1 ≤ w'.heap.size := fun {d v} {w'} hbw h hd => by obtain ⟨g0, g1, g2⟩ := f1 h; exact ⟨((eval_put_ne hd).trans g0), (g1.below hbw), (Nat.le_trans g2 hbw.size)⟩
    have K2 : ∀ {d : Nat} {v : Value} {w' : World}, Below w.heap.size w w' → D 2 → (hd : 29 ≠ d := by decide) → (a.put (some d) v).eval (.tmp 29) = .pointer (some ⟨R, 0, none⟩) := fun {d v} {w'} hbw h hd => by have g0 := f2 h; exact ((eval_put_ne hd).trans g0)
    have K3 : ∀ {d : Nat} {v : Value} {w' : World}, Below w.heap.size w w' → D 3 → (hd : 30 ≠ d := by decide) → (a.put (some d) v).eval (.tmp 30) = .slice sa L.length cap := fun {d v} {w'} hbw h hd => by have g0 := f3 h; exact ((eval_put_ne hd).trans g0)
    have K4 : ∀ {d : Nat} {v : Value} {w' : World}, Below w.heap.size w w' → D 4 → (hd : 31 ≠ d := by decide) → (a.put (some d) v).eval (.tmp 31) = .slice (some ⟨g, 0, none⟩) L.length mc ∧ SegB w' g (g + 1) (.slice (some ⟨g, 0, none⟩) L.length mc) (L) ∧ (V.heap.size ≤ g) ∧ g + 1 ≤ w'.heap.size ∧ (1 = i ∨ D 1) := fun {d v} {w'} hbw h hd => by obtain ⟨g0, g1, g2, g3, g4⟩ := f4 h; exact ⟨((eval_put_ne hd).trans g0), (g1.below hbw), g2, (Nat.le_trans g3 hbw.size), (Or.inr g4)⟩
    have K5 : ∀ {d : Nat} {v : Value} {w' : World}, Below w.heap.size w w' → D 5 → (hd : 32 ≠ d := by decide) → (a.put (some d) v).eval (.tmp 32) = .agg #[.slice (some ⟨g, 0, none⟩) L.length mc] ∧ (1 = i ∨ D 1) ∧ (4 = i ∨ D 4) := fun {d v} {w'} hbw h hd => by obtain ⟨g0, g1, g2⟩ := f5 h; exact ⟨((eval_put_ne hd).trans g0), (Or.inr g1), (Or.inr g2)⟩
    have K6 : ∀ {d : Nat} {v : Value} {w' : World}, Below w.heap.size w w' → D 6 → (hd : 33 ≠ d := by decide) → (a.put (some d) v).eval (.tmp 33) = .agg (shotCells c (.slice (some ⟨g, 0, none⟩) L.length mc) (.slice none 0 0) (.slice none 0 0) (.slice none 0 0) false) ∧ (1 = i ∨ D 1) ∧ (4 = i ∨ D 4) := fun {d v} {w'} hbw h hd => by obtain ⟨g0, g1, g2⟩ := f6 h; exact ⟨((eval_put_ne hd).trans g0), (Or.inr g1), (Or.inr g2)⟩
    have K7 : ∀ {d : Nat} {v : Value} {w' : World}, Below w.heap.size w w' → D 7 → (hd : 9 ≠ d := by decide) → (a.put (some d) v).eval (.tmp 9) = .pointer (some ⟨P, 0, none⟩) ∧ (V.heap.size ≤ P) ∧ (∃ cs : Array Value, BoxN w' P 35 cs ∧ cs.size = 16) ∧ P + 1 ≤ w'.heap.size := fun {d v} {w'} hbw h hd => by obtain ⟨g0, g1, g2, g3⟩ := f7 h; exact ⟨((eval_put_ne hd).trans g0), g1, (by obtain ⟨cs, hcs, hcz⟩ := g2; exact ⟨cs, hcs.below hbw, hcz⟩), (Nat.le_trans g3 hbw.size)⟩
    have K8 : ∀ {w' : World}, Below w.heap.size w w' → D 8 → BoxN w' P 35 (shotCells c (.slice (some ⟨g, 0, none⟩) L.length mc) (.slice none 0 0) (.slice none 0 0) (.slice none 0 0) false) ∧ (V.heap.size ≤ P) ∧ (1 = i ∨ D 1) ∧ (4 = i ∨ D 4) ∧ (7 = i ∨ D 7) := fun {w'} hbw h => by obtain ⟨g0, g1, g2, g3, g4⟩ := f8 h; exact ⟨(g0.below hbw), g1, (Or.inr g2), (Or.inr g3), (Or.inr g4)⟩
    obtain (rfl | rfl | rfl | rfl | rfl | rfl | rfl | rfl | rfl) : i = 0 ∨ i = 1 ∨ i = 2 ∨ i = 3 ∨ i = 4 ∨ i = 5 ∨ i = 6 ∨ i = 7 ∨ i = 8 := by omega
    · refine op_load o0 ((hf.eval (by decide)).trans h4) (loadIC (hC.below hb)) ?_
      exact ⟨hf.put (by decide) _, hb, g, mc, b0, P, fun _ => eval_put_self (by rw [hz]; decide), fun h => K1 rf (nr h), fun h => K2 rf (nr h), fun h => K3 rf (nr h), fun h => K4 rf (nr h), fun h => K5 rf (nr h), fun h => K6 rf (nr h), fun h => K7 rf (nr h), fun h => K8 rf (nr h), fun h1 h2 => x0 (nr h1) (nr h2), fun h1 h2 => x1 (nr h1) (nr h2)⟩
    · refine op_bytes (v := .slice (some ⟨w.heap.size, 0, none⟩) 0 0) (w' := w.alloc (.cells #[] 5)) o1 (by simp [go_sem]) ?_
      have hbw := alw w (.cells #[] 5)
      have hb' := belowStepR hb hbw (Nat.le_refl _)
      exact ⟨hf.put (by decide) _, hb', g, mc, w.heap.size, P, fun h => K0 hbw (nr h), fun _ => ⟨eval_put_self (by rw [hz]; decide), BoxN.new _ _ _, Nat.le_of_eq (World.size_alloc _ _).symm⟩, fun h => K2 hbw (nr h), fun h => K3 hbw (nr h), fun h => by have h' := (nr h); obtain ⟨g0, g1, g2, g3, g4⟩ := f4 h'; exact absurd g4 hnd, fun h => by have h' := (nr h); obtain ⟨g0, g1, g2⟩ := f5 h'; exact absurd g1 hnd, fun h => by have h' := (nr h); obtain ⟨g0, g1, g2⟩ := f6 h'; exact absurd g1 hnd, fun h => K7 hbw (nr h), fun h => by have h' := (nr h); obtain ⟨g0, g1, g2, g3, g4⟩ := f8 h'; exact absurd g2 hnd, fun h1 h2 => by have h' := (nr h2); obtain ⟨g0, g1, g2, g3⟩ := f7 h'; omega, fun h1 h2 => x1 (nr h1) (nr h2)⟩
    · refine wpOp_val (v := .pointer (some ⟨R, 0, none⟩)) (w' := w) o2 (fun o ho => by unfold execOp; rw [ho]; dsimp only; rw [(hf.eval (by decide)).trans h5]; simp [go_sem]) ?_
      exact ⟨hf.put (by decide) _, hb, g, mc, b0, P, fun h => K0 rf (nr h), fun h => K1 rf (nr h), fun _ => eval_put_self (by rw [hz]; decide), fun h => K3 rf (nr h), fun h => K4 rf (nr h), fun h => K5 rf (nr h), fun h => K6 rf (nr h), fun h => K7 rf (nr h), fun h => K8 rf (nr h), fun h1 h2 => x0 (nr h1) (nr h2), fun h1 h2 => x1 (nr h1) (nr h2)⟩
    · have d2 := waits u3_2 hdep
      have e2_0 := f2 d2
      refine op_load o3 e2_0 (loadSl (hR.below hb)) ?_
      exact ⟨hf.put (by decide) _, hb, g, mc, b0, P, fun h => K0 rf (nr h), fun h => K1 rf (nr h), fun h => K2 rf (nr h), fun _ => eval_put_self (by rw [hz]; decide), fun h => K4 rf (nr h), fun h => K5 rf (nr h), fun h => K6 rf (nr h), fun h => K7 rf (nr h), fun h => K8 rf (nr h), fun h1 h2 => x0 (nr h1) (nr h2), fun h1 h2 => x1 (nr h1) (nr h2)⟩
    · have d1 := waits u4_1 hdep
      obtain ⟨e1_0, e1_1, e1_2⟩ := f1 d1
      have d3 := waits u4_3 hdep
      have e3_0 := f3 d3
      obtain ⟨mc', w', hrun, hown, hbw, hlt⟩ := copy_run e1_1 hl h0 (RowB.below hrow hb) cap
      refine op_append o4 e1_0 e3_0 hrun ?_
      have hb' := belowStepR hb hbw (Nat.le_refl _)
      exact ⟨hf.put (by decide) _, hb', w.heap.size, mc', b0, P, fun h => K0 hbw (nr h), fun h => K1 hbw (nr h), fun h => K2 hbw (nr h), fun h => K3 hbw (nr h), fun _ => ⟨eval_put_self (by rw [hz]; decide), hown, hbs, hlt, Or.inr d1⟩, fun h => by have h' := (nr h); obtain ⟨g0, g1, g2⟩ := f5 h'; exact absurd g2 hnd, fun h => by have h' := (nr h); obtain ⟨g0, g1, g2⟩ := f6 h'; exact absurd g2 hnd, fun h => K7 hbw (nr h), fun h => by have h' := (nr h); obtain ⟨g0, g1, g2, g3, g4⟩ := f8 h'; exact absurd g3 hnd, fun h1 h2 => x0 (nr h1) (nr h2), fun h1 h2 => by have h' := (nr h2); obtain ⟨g0, g1, g2, g3⟩ := f7 h'; omega⟩
    · have d4 := waits u5_4 hdep
      obtain ⟨e4_0, e4_1, e4_2, e4_3, e4_4⟩ := f4 d4
      refine wpOp_val (v := .agg #[.slice (some ⟨g, 0, none⟩) L.length mc]) (w' := w) o5 (fun o ho => by unfold execOp; rw [ho]; dsimp only; simp only [List.map_toArray, List.map_cons, List.map_nil, e4_0, eval_const]; simp [go_sem]) ?_
      exact ⟨hf.put (by decide) _, hb, g, mc, b0, P, fun h => K0 rf (nr h), fun h => K1 rf (nr h), fun h => K2 rf (nr h), fun h => K3 rf (nr h), fun h => K4 rf (nr h), fun _ => ⟨eval_put_self (by rw [hz]; decide), Or.inr e4_4, Or.inr d4⟩, fun h => K6 rf (nr h), fun h => K7 rf (nr h), fun h => K8 rf (nr h), fun h1 h2 => x0 (nr h1) (nr h2), fun h1 h2 => x1 (nr h1) (nr h2)⟩
    · have d0 := waits u6_0 hdep
      have e0_0 := f0 d0
      have d5 := waits u6_5 hdep
      obtain ⟨e5_0, e5_1, e5_2⟩ := f5 d5
      refine wpOp_val (v := .agg (shotCells c (.slice (some ⟨g, 0, none⟩) L.length mc) (.slice none 0 0) (.slice none 0 0) (.slice none 0 0) false)) (w' := w) o6 (fun o ho => by unfold execOp; rw [ho]; dsimp only; simp only [List.map_toArray, List.map_cons, List.map_nil, e0_0, e5_0, eval_const]; simp [go_sem, shotCells, cpuCells]) ?_
      exact ⟨hf.put (by decide) _, hb, g, mc, b0, P, fun h => K0 rf (nr h), fun h => K1 rf (nr h), fun h => K2 rf (nr h), fun h => K3 rf (nr h), fun h => K4 rf (nr h), fun h => K5 rf (nr h), fun _ => ⟨eval_put_self (by rw [hz]; decide), Or.inr e5_1, Or.inr e5_2⟩, fun h => K7 rf (nr h), fun h => K8 rf (nr h), fun h1 h2 => x0 (nr h1) (nr h2), fun h1 h2 => x1 (nr h1) (nr h2)⟩
    · obtain ⟨cs, hal, hcz⟩ := allocIS w
      refine op_alloc o7 hal ?_
      have hbw : Below w.heap.size w (w.alloc (.cells cs 35)) := (Below.refl _ _).alloc (Nat.le_refl _) _
      have hb' := belowStepR hb hbw (Nat.le_refl _)
      exact ⟨hf.put (by decide) _, hb', g, mc, b0, w.heap.size, fun h => K0 hbw (nr h), fun h => K1 hbw (nr h), fun h => K2 hbw (nr h), fun h => K3 hbw (nr h), fun h => K4 hbw (nr h), fun h => K5 hbw (nr h), fun h => K6 hbw (nr h), fun _ => ⟨eval_put_self (by rw [hz]; decide), hbs, ⟨cs, BoxN.new _ _ _, hcz⟩, Nat.le_of_eq (World.size_alloc _ _).symm⟩, fun h => by have h' := (nr h); obtain ⟨g0, g1, g2, g3, g4⟩ := f8 h'; exact absurd g4 hnd, fun h1 h2 => by have h' := (nr h1); obtain ⟨g0, g1, g2⟩ := f1 h'; omega, fun h1 h2 => by have h' := (nr h1); obtain ⟨g0, g1, g2, g3, g4⟩ := f4 h'; omega⟩
    · have d7 := waits u8_7 hdep
      obtain ⟨e7_0, e7_1, e7_2, e7_3⟩ := f7 d7
      have d6 := waits u8_6 hdep
      obtain ⟨e6_0, e6_1, e6_2⟩ := f6 d6
      obtain ⟨cs, hcs, hcz⟩ := e7_2
      obtain ⟨w', hst, hnew, hsp⟩ := storeIS hcs hcz
      refine op_store o8 e7_0 e6_0 hst ?_
      have hb' := hb.trans (hsp.below e7_1 hbs)
      exact ⟨hf, hb', g, mc, b0, P, fun h => by have h' := (nr h); have g0 := f0 h'; exact g0, fun h => by have h' := (nr h); have := x0 h' d7; obtain ⟨g0, g1, g2⟩ := f1 h'; exact ⟨g0, (g1.span hsp (by omega)), (Nat.le_trans g2 hsp.size)⟩, fun h => by have h' := (nr h); have g0 := f2 h'; exact g0, fun h => by have h' := (nr h); have g0 := f3 h'; exact g0, fun h => by have h' := (nr h); have := x1 h' d7; obtain ⟨g0, g1, g2, g3, g4⟩ := f4 h'; exact ⟨g0, (g1.span hsp (by omega)), g2, (Nat.le_trans g3 hsp.size), (Or.inr g4)⟩, fun h => by have h' := (nr h); obtain ⟨g0, g1, g2⟩ := f5 h'; exact ⟨g0, (Or.inr g1), (Or.inr g2)⟩, fun h => by have h' := (nr h); obtain ⟨g0, g1, g2⟩ := f6 h'; exact ⟨g0, (Or.inr g1), (Or.inr g2)⟩, fun h => by have h' := (nr h); obtain ⟨g0, g1, g2, g3⟩ := f7 h'; exact ⟨g0, g1, ⟨_, hnew, rfl⟩, (Nat.le_trans g3 hsp.size)⟩, fun _ => ⟨hnew, e7_1, Or.inr e6_1, Or.inr e6_2, Or.inr d7⟩, fun h1 h2 => x0 (nr h1) (nr h2), fun h1 h2 => x1 (nr h1) (nr h2)⟩
  · intro D a w hD hI
    obtain ⟨hf, hb, g, mc, b0, P, f0, f1, f2, f3, f4, f5, f6, f7, f8, x0, x1⟩ := hI
    rw [hn] at hD
    have e0_0 := f0 (hD 0 (by decide))
    obtain ⟨e1_0, e1_1, e1_2⟩ := f1 (hD 1 (by decide))
    have e2_0 := f2 (hD 2 (by decide))
    have e3_0 := f3 (hD 3 (by decide))
    obtain ⟨e4_0, e4_1, e4_2, e4_3, e4_4⟩ := f4 (hD 4 (by decide))
    obtain ⟨e5_0, e5_1, e5_2⟩ := f5 (hD 5 (by decide))
    obtain ⟨e6_0, e6_1, e6_2⟩ := f6 (hD 6 (by decide))
    obtain ⟨e7_0, e7_1, e7_2, e7_3⟩ := f7 (hD 7 (by decide))
    obtain ⟨e8_0, e8_1, e8_2, e8_3, e8_4⟩ := f8 (hD 8 (by decide))
    have y0 := x0 (hD 1 (by decide)) (hD 7 (by decide))
    have y1 := x1 (hD 4 (by decide)) (hD 7 (by decide))
    exact hQ a w hf ⟨g, mc, P, e7_0, e8_0, e4_1, ⟨e4_2, e7_1, by omega, e4_3, e8_0.lt⟩, hb⟩
  · exact ⟨FrameIs.refl _ _, (Below.refl _ _).drew, 0, 0, 0, 0, fun h => False.elim h, fun h => False.elim h, fun h => False.elim h, fun h => False.elim h, fun h => False.elim h, fun h => False.elim h, fun h => False.elim h, fun h => False.elim h, fun h => False.elim h, fun h => False.elim h, fun h => False.elim h⟩

end Go.Proofs.Ytckfdbjjjgfbfaa
