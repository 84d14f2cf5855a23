/-
  Regions that leave their order open and draw from a cursor.
-/
import Derived.Test.YtckfdbjjjgfbfaaUStepBack
import Derived.Test.YtckfdbjjjgfbfaaURegRun
import Derived.Test.YtckfdbjjjgfbfaaURunB
namespace Go.Proofs.Ytckfdbjjjgfbfaa
set_option linter.unusedVariables false
set_option linter.unusedSimpArgs false
open Go.RowKit

theorem storeIShot {w : World} {B : Nat} {c : CpuN} {a1 a2 a3 a4 : Option Addr} {n1 n2 n3 n4 k1 k2 k3 k4 : Nat} {j : Bool} {cs : Array Value} (h : BoxN w B 35 cs) (hz : cs.size = 16) : ∃ w', (Instr.storeAt 35 (.pointer (some ⟨B, 0, none⟩)) (shotV c (.slice a1 n1 k1) (.slice a2 n2 k2) (.slice a3 n3 k3) (.slice a4 n4 k4) j)).run Try.prog w = .ok () w' ∧ BoxN w' B 35 (shotCells c (.slice a1 n1 k1) (.slice a2 n2 k2) (.slice a3 n3 k3) (.slice a4 n4 k4) j) ∧ Span B (B + 1) w w' :=
  store_whole (vs := shotCells c (.slice a1 n1 k1) (.slice a2 n2 k2) (.slice a3 n3 k3) (.slice a4 n4 k4) j) h hz (by kernel_rfl) (by kernel_rfl)

/-- What a region changes that draws from a cursor in box B and may store into box A: until d, nothing but A. -/
structure HBT (d : Prop) (A B : Nat) (V w : World) : Prop where
  own : d ∨ Span A B V w
  span : Span A (B + 1) V w

theorem HBT.size {d : Prop} {A B : Nat} {V w : World} (h : HBT d A B V w) : V.heap.size ≤ w.heap.size := h.span.size

theorem HBT.start (A B : Nat) (V : World) : HBT False A B V V.drew := ⟨.inr (Span.of_below _ _ (Below.refl _ _).drew), Span.of_below _ _ (Below.refl _ _).drew⟩

theorem HBT.up {d d' : Prop} {A B : Nat} {V w : World} (h : HBT d A B V w) (f : d → d') : HBT d' A B V w := ⟨h.own.imp f id, h.span⟩

theorem HBT.below {d : Prop} {A B : Nat} {V w w' : World} (h : HBT d A B V w) (hb : Below w.heap.size w w') : HBT d A B V w' :=
  ⟨h.own.imp id (fun h => h.trans (Span.of_below _ _ hb)), h.span.trans (Span.of_below _ _ hb)⟩

theorem HBT.draw {d d' : Prop} {A B : Nat} {V w w' : World} (h : HBT d A B V w) (hg : w.grownBy w' (some B)) (hAB : A ≤ B) (hd : d') : HBT d' A B V w' :=
  ⟨.inl hd, h.span.trans (Span.of_grown hg hAB (Nat.lt_succ_self _))⟩

theorem spanNew {V w w' : World} {lo hi P : Nat} (h : Span lo hi V w) (k : Span P (P + 1) w w') (hp : V.heap.size ≤ P) : Span lo hi V w' :=
  ⟨k.os.trans h.os, k.tape.trans h.tape, k.output.trans h.output, Nat.le_trans h.size k.size, fun i hi hd => (k.block i (Nat.lt_of_lt_of_le hi h.size) (.inl (Nat.lt_of_lt_of_le hi hp))).trans (h.block i hi hd)⟩

theorem HBT.new {d : Prop} {A B P : Nat} {V w w' : World} (h : HBT d A B V w) (hs : Span P (P + 1) w w') (hp : V.heap.size ≤ P) : HBT d A B V w' :=
  ⟨h.own.imp id (fun h => spanNew h hs hp), spanNew h.span hs hp⟩

theorem HBT.set {d : Prop} {A B : Nat} {V w w' : World} (h : HBT d A B V w) (hs : Span A (A + 1) w w') (hAB : A + 1 = B) : HBT d A B V w' :=
  ⟨h.own.imp id (fun h => h.trans (hs.wide (Nat.le_refl _) (by omega))), h.span.trans (hs.wide (Nat.le_refl _) (by omega))⟩

theorem Drawn.span2 {n₀ B : Nat} {a : Option Addr} {len cap : Nat} {z : List Int} {s : Nat × Int} {w w' : World} {lo hi : Nat} (h : Drawn n₀ B a len cap z s w) (hs : Span lo hi w w') (hn : n₀ ≤ lo) (hB : B < lo ∨ hi ≤ B) : Drawn n₀ B a len cap z s w' :=
  ⟨h.1.kept (hs.below hn (by have := h.lt; have := h.2.2; omega)), (hs.block B h.lt hB).trans h.2.1, h.2.2⟩

theorem unitsReg3_ops (ops : Array Oper) (h : regionOps 3 (Try.f7.body.getD .skip) = some ops) : backward ops = true ∧ ops.size = 7 ∧ IsOp ops 0 (some 15) (.load 28 (.tmp 5)) ∧ IsOp ops 1 (some 16) (.load 30 (.tmp 6)) ∧ IsOp ops 2 (some 17) (.move (.tmp 4)) ∧ IsOp ops 3 (some 18) (.call ⟨.value (.func 22), #[.tmp 17], #[57]⟩) ∧ IsOp ops 4 (some 19) (.call ⟨.value (.func 21), #[.tmp 15, .tmp 16, .tmp 18, .const (.int .i64 12)], #[28, 30, 62, 3]⟩) ∧ IsOp ops 5 (some 7) (.alloc 35) ∧ IsOp ops 6 none (.store 35 (.tmp 7) (.tmp 19)) ∧ Waits ops 3 2 ∧ Waits ops 4 0 ∧ Waits ops 4 1 ∧ Waits ops 4 3 ∧ Waits ops 6 5 ∧ Waits ops 6 4 := by
  obtain rfl : ops = (regionOps 3 (Try.f7.body.getD .skip)).getD #[] := by rw [h]; rfl
  exact ⟨by kernel_rfl, by kernel_rfl, by unfold IsOp; kernel_rfl, by unfold IsOp; kernel_rfl, by unfold IsOp; kernel_rfl, by unfold IsOp; kernel_rfl, by unfold IsOp; kernel_rfl, by unfold IsOp; kernel_rfl, by unfold IsOp; kernel_rfl, by unfold Waits; kernel_rfl, by unfold Waits; kernel_rfl, by unfold Waits; kernel_rfl, by unfold Waits; kernel_rfl, by unfold Waits; kernel_rfl, by unfold Waits; kernel_rfl⟩

abbrev unitsReg3_I (c : CpuN) (ra : Option Addr) (rc : Nat) (L : List Nat) (B C M : Nat) (n₀ : Nat) (ca : Option Addr) (len cp : Nat) (z : List Int) (s : Nat × Int) (V : World) (a0 : Act) (D : Nat → Prop) (a : Act) (w : World) : Prop :=
  FrameIs a0 [7, 15, 16, 17, 18, 19] a ∧ HBT (D 3) B B V w ∧ ∃ (ae : Option Addr) (ce : Nat) (E : List EvN) (s2 : Nat × Int) (elo : Nat) (ehi : Nat) (lo : Nat) (hi : Nat) (t1 : Option Addr) (t2 : Option Addr) (t3 : Option Addr) (t4 : Option Addr) (k1 : Nat) (k2 : Nat) (k3 : Nat) (k4 : Nat) (P : Nat), (D 0 → a.eval (.tmp 15) = cpuV c) ∧ (D 1 → a.eval (.tmp 16) = ramV (.slice ra L.length rc)) ∧ (D 2 → a.eval (.tmp 17) = .pointer (some ⟨B, 0, none⟩)) ∧ (D 3 → a.eval (.tmp 18) = .slice ae E.length ce ∧ (SegG encEv w elo ehi (.slice ae E.length ce) E) ∧ (Drawn n₀ B ca len cp z s2 w) ∧ (E.length ≤ 3 ∧ V.heap.size ≤ elo) ∧ ehi ≤ w.heap.size) ∧ (D 4 → a.eval (.tmp 19) = shotV (shownN c L E 12).int.cpu (.slice t1 (shownN c L E 12).int.mem.length k1) (.slice t2 (shownN c L E 12).int.trace.length k2) (.slice t3 (shownN c L E 12).int.starts.length k3) (.slice t4 (shownN c L E 12).int.cpus.length k4) (shownN c L E 12).int.jam ∧ (ShotOwn w lo hi (.slice t1 (shownN c L E 12).int.mem.length k1) (.slice t2 (shownN c L E 12).int.trace.length k2) (.slice t3 (shownN c L E 12).int.starts.length k3) (.slice t4 (shownN c L E 12).int.cpus.length k4) (shownN c L E 12).int) ∧ (V.heap.size ≤ lo ∧ lo ≤ hi) ∧ hi ≤ w.heap.size ∧ D 3) ∧ (D 5 → a.eval (.tmp 7) = .pointer (some ⟨P, 0, none⟩) ∧ (V.heap.size ≤ P) ∧ (∃ cs : Array Value, BoxN w P 35 cs ∧ cs.size = 16) ∧ P + 1 ≤ w.heap.size) ∧ (D 6 → BoxN w P 35 (shotCells (shownN c L E 12).int.cpu (.slice t1 (shownN c L E 12).int.mem.length k1) (.slice t2 (shownN c L E 12).int.trace.length k2) (.slice t3 (shownN c L E 12).int.starts.length k3) (.slice t4 (shownN c L E 12).int.cpus.length k4) (shownN c L E 12).int.jam) ∧ (V.heap.size ≤ P) ∧ D 3 ∧ D 4 ∧ D 5) ∧ (D 3 → D 5 → (ehi ≤ P ∨ P + 1 ≤ elo)) ∧ (D 4 → D 5 → (hi ≤ P ∨ P + 1 ≤ lo))

set_option maxRecDepth 100000 in
set_option maxHeartbeats 4000000 in
theorem unitsReg3 (c : CpuN) (ra : Option Addr) (rc : Nat) (L : List Nat) (B C M Llo Lhi : Nat) (n₀ : Nat) (ca : Option Addr) (len cp : Nat) (z : List Int) (s : Nat × Int) (V : World) (HS : ∀ (E : List EvN) (ae : Option Addr) (ce : Nat) (W : World), E.length ≤ 3 → RowB W ra L → RowG encEv W ae E → Calls Try.prog 21 #[cpuV c, ramV (.slice ra L.length rc), .slice ae E.length ce, .int .i64 12] W (Shown W (shownN c L E 12).int)) (hC : BoxN V C 28 (cpuCells c)) (hM : BoxN V M 30 #[.slice ra L.length rc]) (hL : SegB V Llo Lhi (.slice ra L.length rc) L) (hd : Drawn n₀ B ca len cp z s V) (hn0 : n₀ ≤ B) (hBC : B < C) (hBM : B < M) (hBL : B < Llo) (a0 : Act) (h4 : a0.eval (.tmp 4) = .pointer (some ⟨B, 0, none⟩)) (h5 : a0.eval (.tmp 5) = .pointer (some ⟨C, 0, none⟩)) (h6 : a0.eval (.tmp 6) = .pointer (some ⟨M, 0, none⟩)) (hsz : a0.tmps.size = 28) (Q : Exit → Act → World → Prop)
    (hQ : ∀ (a : Act) (w : World), FrameIs a0 [7, 15, 16, 17, 18, 19] a → (∃ E s2 lo hi t1 t2 t3 t4 k1 k2 k3 k4 P, a.eval (.tmp 7) = .pointer (some ⟨P, 0, none⟩) ∧ BoxN w P 35 (shotCells (shownN c L E 12).int.cpu (.slice t1 (shownN c L E 12).int.mem.length k1) (.slice t2 (shownN c L E 12).int.trace.length k2) (.slice t3 (shownN c L E 12).int.starts.length k3) (.slice t4 (shownN c L E 12).int.cpus.length k4) (shownN c L E 12).int.jam) ∧ ShotOwn w lo hi (.slice t1 (shownN c L E 12).int.mem.length k1) (.slice t2 (shownN c L E 12).int.trace.length k2) (.slice t3 (shownN c L E 12).int.starts.length k3) (.slice t4 (shownN c L E 12).int.cpus.length k4) (shownN c L E 12).int ∧ Drawn n₀ B ca len cp z s2 w ∧ (V.heap.size ≤ lo ∧ lo ≤ hi ∧ hi ≤ w.heap.size ∧ V.heap.size ≤ P ∧ (P + 1 ≤ lo ∨ hi ≤ P) ∧ P < w.heap.size ∧ E.length ≤ 3) ∧ Span B (B + 1) V w) → Q .normal a w)
    (ops : Array Oper) (hops : regionOps 3 (Try.f7.body.getD .skip) = some ops) (id : Nat) : (Code.region id ops true).wp Try.prog Q a0 V := by
  obtain ⟨hbk, hn, o0, o1, o2, o3, o4, o5, o6, u3_2, u4_0, u4_1, u4_3, u6_5, u6_4⟩ := unitsReg3_ops ops hops
  clear hops
  have hBV := hd.lt
  refine wp_region_facts (by kernel_rfl) hbk (unitsReg3_I c ra rc L B C M n₀ ca len cp z s V a0) ?_ ?_ id a0 V ?_
  · intro i hin D a w hnd hdep hI
    obtain ⟨hf, hb, ae, ce, E, s2, elo, ehi, lo, hi, t1, t2, t3, t4, k1, k2, k3, k4, P, f0, f1, f2, f3, f4, f5, f6, x0, x1⟩ := hI
    rw [hn] at hin
    have hz : a.tmps.size = 28 := hf.size.trans hsz
    have hbs := hb.size
    have rf := Below.refl w.heap.size w
    have K0 : ∀ {d : Nat} {v : Value} {w' : World}, Below w.heap.size w w' → D 0 → (hd : 15 ≠ d := by decide) → (a.put (some d) v).eval (.tmp 15) = cpuV c := fun {d v} {w'} hbw h hd => by have g0 := f0 h; exact ((eval_put_ne hd).trans g0)
    have K1 : ∀ {d : Nat} {v : Value} {w' : World}, Below w.heap.size w w' → D 1 → (hd : 16 ≠ d := by decide) → (a.put (some d) v).eval (.tmp 16) = ramV (.slice ra L.length rc) := fun {d v} {w'} hbw h hd => by have g0 := f1 h; exact ((eval_put_ne hd).trans g0)
    have K2 : ∀ {d : Nat} {v : Value} {w' : World}, Below w.heap.size w w' → D 2 → (hd : 17 ≠ d := by decide) → (a.put (some d) v).eval (.tmp 17) = .pointer (some ⟨B, 0, none⟩) := fun {d v} {w'} hbw h hd => by have g0 := f2 h; exact ((eval_put_ne hd).trans g0)
    have K3 : ∀ {d : Nat} {v : Value} {w' : World}, Below w.heap.size w w' → D 3 → (hd : 18 ≠ d := by decide) → (a.put (some d) v).eval (.tmp 18) = .slice ae E.length ce ∧ (SegG encEv w' elo ehi (.slice ae E.length ce) E) ∧ (Drawn n₀ B ca len cp z s2 w') ∧ (E.length ≤ 3 ∧ V.heap.size ≤ elo) ∧ ehi ≤ w'.heap.size := fun {d v} {w'} hbw h hd => by obtain ⟨g0, g1, g2, g3, g4⟩ := f3 h; exact ⟨((eval_put_ne hd).trans g0), (g1.below hbw), (g2.below hbw), g3, (Nat.le_trans g4 hbw.size)⟩
    have K4 : ∀ {d : Nat} {v : Value} {w' : World}, Below w.heap.size w w' → D 4 → (hd : 19 ≠ d := by decide) → (a.put (some d) v).eval (.tmp 19) = shotV (shownN c L E 12).int.cpu (.slice t1 (shownN c L E 12).int.mem.length k1) (.slice t2 (shownN c L E 12).int.trace.length k2) (.slice t3 (shownN c L E 12).int.starts.length k3) (.slice t4 (shownN c L E 12).int.cpus.length k4) (shownN c L E 12).int.jam ∧ (ShotOwn w' lo hi (.slice t1 (shownN c L E 12).int.mem.length k1) (.slice t2 (shownN c L E 12).int.trace.length k2) (.slice t3 (shownN c L E 12).int.starts.length k3) (.slice t4 (shownN c L E 12).int.cpus.length k4) (shownN c L E 12).int) ∧ (V.heap.size ≤ lo ∧ lo ≤ hi) ∧ hi ≤ w'.heap.size ∧ (3 = i ∨ D 3) := fun {d v} {w'} hbw h hd => by obtain ⟨g0, g1, g2, g3, g4⟩ := f4 h; exact ⟨((eval_put_ne hd).trans g0), (g1.below hbw), g2, (Nat.le_trans g3 hbw.size), (Or.inr g4)⟩
    have K5 : ∀ {d : Nat} {v : Value} {w' : World}, Below w.heap.size w w' → D 5 → (hd : 7 ≠ d := by decide) → (a.put (some d) v).eval (.tmp 7) = .pointer (some ⟨P, 0, none⟩) ∧ (V.heap.size ≤ P) ∧ (∃ cs : Array Value, BoxN w' P 35 cs ∧ cs.size = 16) ∧ P + 1 ≤ w'.heap.size := fun {d v} {w'} hbw h hd => by obtain ⟨g0, g1, g2, g3⟩ := f5 h; exact ⟨((eval_put_ne hd).trans g0), g1, (by obtain ⟨cs, hcs, hcz⟩ := g2; exact ⟨cs, hcs.below hbw, hcz⟩), (Nat.le_trans g3 hbw.size)⟩
    have K6 : ∀ {w' : World}, Below w.heap.size w w' → D 6 → BoxN w' P 35 (shotCells (shownN c L E 12).int.cpu (.slice t1 (shownN c L E 12).int.mem.length k1) (.slice t2 (shownN c L E 12).int.trace.length k2) (.slice t3 (shownN c L E 12).int.starts.length k3) (.slice t4 (shownN c L E 12).int.cpus.length k4) (shownN c L E 12).int.jam) ∧ (V.heap.size ≤ P) ∧ (3 = i ∨ D 3) ∧ (4 = i ∨ D 4) ∧ (5 = i ∨ D 5) := fun {w'} hbw h => by obtain ⟨g0, g1, g2, g3, g4⟩ := f6 h; exact ⟨(g0.below hbw), g1, (Or.inr g2), (Or.inr g3), (Or.inr g4)⟩
    obtain (rfl | rfl | rfl | rfl | rfl | rfl | rfl) : i = 0 ∨ i = 1 ∨ i = 2 ∨ i = 3 ∨ i = 4 ∨ i = 5 ∨ i = 6 := by omega
    · refine op_load o0 ((hf.eval (by decide)).trans h5) (loadIC (hC.span hb.span (by omega))) ?_
      exact ⟨hf.put (by decide) _, hb.up Or.inr, ae, ce, E, s2, elo, ehi, lo, hi, t1, t2, t3, t4, k1, k2, k3, k4, P, fun _ => eval_put_self (by rw [hz]; decide), fun h => K1 rf (nr h), fun h => K2 rf (nr h), fun h => K3 rf (nr h), fun h => K4 rf (nr h), fun h => K5 rf (nr h), fun h => K6 rf (nr h), fun h1 h2 => x0 (nr h1) (nr h2), fun h1 h2 => x1 (nr h1) (nr h2)⟩
    · refine op_load o1 ((hf.eval (by decide)).trans h6) (loadIR (hM.span hb.span (by omega))) ?_
      exact ⟨hf.put (by decide) _, hb.up Or.inr, ae, ce, E, s2, elo, ehi, lo, hi, t1, t2, t3, t4, k1, k2, k3, k4, P, fun h => K0 rf (nr h), fun _ => eval_put_self (by rw [hz]; decide), fun h => K2 rf (nr h), fun h => K3 rf (nr h), fun h => K4 rf (nr h), fun h => K5 rf (nr h), fun h => K6 rf (nr h), fun h1 h2 => x0 (nr h1) (nr h2), fun h1 h2 => x1 (nr h1) (nr h2)⟩
    · refine op_move o2 ((hf.eval (by decide)).trans h4) ?_
      exact ⟨hf.put (by decide) _, hb.up Or.inr, ae, ce, E, s2, elo, ehi, lo, hi, t1, t2, t3, t4, k1, k2, k3, k4, P, fun h => K0 rf (nr h), fun h => K1 rf (nr h), fun _ => eval_put_self (by rw [hz]; decide), fun h => K3 rf (nr h), fun h => K4 rf (nr h), fun h => K5 rf (nr h), fun h => K6 rf (nr h), fun h1 h2 => x0 (nr h1) (nr h2), fun h1 h2 => x1 (nr h1) (nr h2)⟩
    · have d2 := waits u3_2 hdep
      have e2_0 := f2 d2
      refine op_call o3 (by simp only [List.map_toArray, List.map_cons, List.map_nil, e2_0]) rfl ((events_drawn n₀ B ca len cp z s w (hd.span2 (hb.own.resolve_left hnd) hn0 (.inr (Nat.le_refl _)))).mono ?_)
      rintro e w' ⟨v, E', s', hE, rfl, hO, hdr, hg⟩
      obtain ⟨ae', ce', rfl, _⟩ := hO.len
      have hsp := Span.of_grown hg (Nat.le_refl _) (Nat.lt_succ_self _)
      refine ⟨_, rfl, ?_⟩
      exact ⟨hf.put (by decide) _, hb.draw hg (by omega) (.inl rfl), ae', ce', E', s', w.heap.size, w'.heap.size, lo, hi, t1, t2, t3, t4, k1, k2, k3, k4, P, fun h => by have h' := (nr h); have g0 := f0 h'; exact ((eval_put_ne (by decide)).trans g0), fun h => by have h' := (nr h); have g0 := f1 h'; exact ((eval_put_ne (by decide)).trans g0), fun h => by have h' := (nr h); have g0 := f2 h'; exact ((eval_put_ne (by decide)).trans g0), fun _ => ⟨eval_put_self (by rw [hz]; decide), SegG.of hO, hdr, ⟨hE, hbs⟩, Nat.le_refl _⟩, fun h => by have h' := (nr h); obtain ⟨g0, g1, g2, g3, g4⟩ := f4 h'; exact absurd g4 hnd, fun h => by have h' := (nr h); obtain ⟨g0, g1, g2, g3⟩ := f5 h'; exact ⟨((eval_put_ne (by decide)).trans g0), g1, (by obtain ⟨cs, hcs, hcz⟩ := g2; exact ⟨cs, hcs.span hsp (by omega), hcz⟩), (Nat.le_trans g3 hsp.size)⟩, fun h => by have h' := (nr h); obtain ⟨g0, g1, g2, g3, g4⟩ := f6 h'; exact absurd g2 hnd, fun h1 h2 => by have h' := (nr h2); obtain ⟨g0, g1, g2, g3⟩ := f5 h'; omega, fun h1 h2 => x1 (nr h1) (nr h2)⟩
    · have d0 := waits u4_0 hdep
      have e0_0 := f0 d0
      have d1 := waits u4_1 hdep
      have e1_0 := f1 d1
      have d3 := waits u4_3 hdep
      obtain ⟨e3_0, e3_1, e3_2, e3_3, e3_4⟩ := f3 d3
      refine op_call o4 (by simp only [List.map_toArray, List.map_cons, List.map_nil, eval_const, e0_0, e1_0, e3_0]) rfl ((HS E ae ce w e3_3.1 (hL.span hb.span (.inr (by omega))).row e3_1.1.row.2).mono ?_)
      rintro e w' ⟨m, t, st, p, rfl, hO, hbw⟩
      obtain ⟨u1, l1, u2, l2, u3, l3, u4, l4, rfl, rfl, rfl, rfl, _⟩ := hO.len
      have hbz := hbw.size
      have hb' := hb.below hbw
      refine ⟨_, rfl, ?_⟩
      exact ⟨hf.put (by decide) _, hb'.up Or.inr, ae, ce, E, s2, elo, ehi, w.heap.size, w'.heap.size, u1, u2, u3, u4, l1, l2, l3, l4, P, fun h => K0 hbw (nr h), fun h => K1 hbw (nr h), fun h => K2 hbw (nr h), fun h => K3 hbw (nr h), fun _ => ⟨eval_put_self (by rw [hz]; decide), hO, ⟨hbs, hbw.size⟩, Nat.le_refl _, Or.inr d3⟩, fun h => K5 hbw (nr h), fun h => by have h' := (nr h); obtain ⟨g0, g1, g2, g3, g4⟩ := f6 h'; exact absurd g3 hnd, fun h1 h2 => x0 (nr h1) (nr h2), fun h1 h2 => by have h' := (nr h2); obtain ⟨g0, g1, g2, g3⟩ := f5 h'; omega⟩
    · obtain ⟨cs, hal, hcz⟩ := allocIS w
      refine op_alloc o5 hal ?_
      have hbw : Below w.heap.size w (w.alloc (.cells cs 35)) := (Below.refl _ _).alloc (Nat.le_refl _) _
      have hb' := hb.below hbw
      exact ⟨hf.put (by decide) _, hb'.up Or.inr, ae, ce, E, s2, elo, ehi, lo, hi, t1, t2, t3, t4, k1, k2, k3, k4, w.heap.size, fun h => K0 hbw (nr h), fun h => K1 hbw (nr h), fun h => K2 hbw (nr h), fun h => K3 hbw (nr h), fun h => K4 hbw (nr h), fun _ => ⟨eval_put_self (by rw [hz]; decide), hbs, ⟨cs, BoxN.new _ _ _, hcz⟩, Nat.le_of_eq (World.size_alloc _ _).symm⟩, fun h => by have h' := (nr h); obtain ⟨g0, g1, g2, g3, g4⟩ := f6 h'; exact absurd g4 hnd, fun h1 h2 => by have h' := (nr h1); obtain ⟨g0, g1, g2, g3, g4⟩ := f3 h'; omega, fun h1 h2 => by have h' := (nr h1); obtain ⟨g0, g1, g2, g3, g4⟩ := f4 h'; omega⟩
    · have d5 := waits u6_5 hdep
      obtain ⟨e5_0, e5_1, e5_2, e5_3⟩ := f5 d5
      have d4 := waits u6_4 hdep
      obtain ⟨e4_0, e4_1, e4_2, e4_3, e4_4⟩ := f4 d4
      obtain ⟨cs, hcs, hcz⟩ := e5_2
      obtain ⟨w', hst, hnew, hsp⟩ := storeIShot hcs hcz
      refine op_store o6 e5_0 e4_0 hst ?_
      have hb' := hb.new hsp e5_1
      exact ⟨hf, hb'.up Or.inr, ae, ce, E, s2, elo, ehi, lo, hi, t1, t2, t3, t4, k1, k2, k3, k4, P, fun h => by have h' := (nr h); have g0 := f0 h'; exact g0, fun h => by have h' := (nr h); have g0 := f1 h'; exact g0, fun h => by have h' := (nr h); have g0 := f2 h'; exact g0, fun h => by have h' := (nr h); have := x0 h' d5; obtain ⟨g0, g1, g2, g3, g4⟩ := f3 h'; exact ⟨g0, (g1.span hsp (by omega)), (g2.span hsp (by omega)), g3, (Nat.le_trans g4 hsp.size)⟩, fun h => by have h' := (nr h); have := x1 h' d5; obtain ⟨g0, g1, g2, g3, g4⟩ := f4 h'; exact ⟨g0, (g1.span hsp (by omega)), g2, (Nat.le_trans g3 hsp.size), (Or.inr g4)⟩, fun h => by have h' := (nr h); obtain ⟨g0, g1, g2, g3⟩ := f5 h'; exact ⟨g0, g1, ⟨_, hnew, rfl⟩, (Nat.le_trans g3 hsp.size)⟩, fun _ => ⟨hnew, e5_1, Or.inr e4_4, Or.inr d4, Or.inr d5⟩, fun h1 h2 => x0 (nr h1) (nr h2), fun h1 h2 => x1 (nr h1) (nr h2)⟩
  · intro D a w hD hI
    obtain ⟨hf, hb, ae, ce, E, s2, elo, ehi, lo, hi, t1, t2, t3, t4, k1, k2, k3, k4, P, f0, f1, f2, f3, f4, f5, f6, x0, x1⟩ := hI
    rw [hn] at hD
    have e0_0 := f0 (hD 0 (by decide))
    have e1_0 := f1 (hD 1 (by decide))
    have e2_0 := f2 (hD 2 (by decide))
    obtain ⟨e3_0, e3_1, e3_2, e3_3, e3_4⟩ := f3 (hD 3 (by decide))
    obtain ⟨e4_0, e4_1, e4_2, e4_3, e4_4⟩ := f4 (hD 4 (by decide))
    obtain ⟨e5_0, e5_1, e5_2, e5_3⟩ := f5 (hD 5 (by decide))
    obtain ⟨e6_0, e6_1, e6_2, e6_3, e6_4⟩ := f6 (hD 6 (by decide))
    have y0 := x0 (hD 3 (by decide)) (hD 5 (by decide))
    have y1 := x1 (hD 4 (by decide)) (hD 5 (by decide))
    obtain ⟨n1, n2⟩ := e4_2
    exact hQ a w hf ⟨E, s2, lo, hi, t1, t2, t3, t4, k1, k2, k3, k4, P, e5_0, e6_0, e4_1, e3_2, ⟨n1, n2, e4_3, e5_1, by omega, e6_0.lt, e3_3.1⟩, hb.span⟩
  · exact ⟨FrameIs.refl _ _, (HBT.start B B V).up False.elim, none, 0, [], (0, 0), 0, 0, 0, 0, none, none, none, none, 0, 0, 0, 0, 0, fun h => False.elim h, fun h => False.elim h, fun h => False.elim h, fun h => False.elim h, fun h => False.elim h, fun h => False.elim h, fun h => False.elim h, fun h => False.elim h, fun h => False.elim h⟩

theorem storeAny {c : CpuN} {v1 v2 v3 v4 : Value} {j : Bool} (h1 : ∃ x n k, v1 = .slice x n k) (h3 : ∃ x n k, v3 = .slice x n k) (h4 : ∃ x n k, v4 = .slice x n k) {ta : Option Addr} {n ct : Nat} {w : World} {B : Nat} {cs : Array Value} (h : BoxN w B 35 cs) (hz : cs.size = 16) (h2 : v2 = .slice ta n ct := by rfl) : ∃ w', (Instr.storeAt 35 (.pointer (some ⟨B, 0, none⟩)) (shotV c v1 v2 v3 v4 j)).run Try.prog w = .ok () w' ∧ BoxN w' B 35 (shotCells c v1 v2 v3 v4 j) ∧ Span B (B + 1) w w' := by
  obtain ⟨_, _, _, rfl⟩ := h1
  obtain ⟨_, _, _, rfl⟩ := h3
  obtain ⟨_, _, _, rfl⟩ := h4
  subst h2
  exact storeIShot h hz

theorem wrap3 {n : Nat} (h : n ≤ 1048576) : IntKind.i64.wrap ((n : Int) + 3) = (n : Int) + 3 := by simp only [IntKind.wrap, IntKind.bits, IntKind.signed]; simp; omega

theorem wrapB {z : List Int} {len : Nat} {s : Nat × Int} {n : Nat} (h : n ≤ 1048576) : IntKind.i64.wrap (belowV z len s ((n : Int) + 3) - 1) = belowV z len s ((n : Int) + 3) - 1 := by
  obtain ⟨q0, q1⟩ := belowV_bound z len s ((n : Int) + 3) (by omega)
  simp only [IntKind.wrap, IntKind.bits, IntKind.signed]
  simp
  omega

theorem unitsReg4_ops (ops : Array Oper) (h : regionOps 4 (Try.f7.body.getD .skip) = some ops) : backward ops = true ∧ ops.size = 10 ∧ IsOp ops 0 (some 20) (.load 35 (.tmp 7)) ∧ IsOp ops 1 (some 21) (.move (.tmp 4)) ∧ IsOp ops 2 (some 22) (.fieldAddr 35 (.tmp 7) 2) ∧ IsOp ops 3 (some 23) (.load 31 (.tmp 22)) ∧ IsOp ops 4 (some 24) (.call ⟨.builtin .len, #[.tmp 23], #[31]⟩) ∧ IsOp ops 5 (some 25) (.binOp .add 3 (.tmp 24) (.const (.int .i64 3)) 3) ∧ IsOp ops 6 (some 26) (.call ⟨.value (.func 23), #[.tmp 21, .tmp 25], #[57, 3]⟩) ∧ IsOp ops 7 (some 27) (.binOp .sub 3 (.tmp 26) (.const (.int .i64 1)) 3) ∧ IsOp ops 8 none (.store 35 (.tmp 2) (.tmp 20)) ∧ IsOp ops 9 (some 3) (.assign (.tmp 27)) ∧ Waits ops 3 2 ∧ Waits ops 4 3 ∧ Waits ops 5 4 ∧ Waits ops 6 1 ∧ Waits ops 6 5 ∧ Waits ops 7 6 ∧ Waits ops 8 0 ∧ Waits ops 9 7 := by
  obtain rfl : ops = (regionOps 4 (Try.f7.body.getD .skip)).getD #[] := by rw [h]; rfl
  exact ⟨by kernel_rfl, by kernel_rfl, by unfold IsOp; kernel_rfl, by unfold IsOp; kernel_rfl, by unfold IsOp; kernel_rfl, by unfold IsOp; kernel_rfl, by unfold IsOp; kernel_rfl, by unfold IsOp; kernel_rfl, by unfold IsOp; kernel_rfl, by unfold IsOp; kernel_rfl, by unfold IsOp; kernel_rfl, by unfold IsOp; kernel_rfl, by unfold Waits; kernel_rfl, by unfold Waits; kernel_rfl, by unfold Waits; kernel_rfl, by unfold Waits; kernel_rfl, by unfold Waits; kernel_rfl, by unfold Waits; kernel_rfl, by unfold Waits; kernel_rfl, by unfold Waits; kernel_rfl⟩

abbrev unitsReg4_I (r : ShotI) (ta : Option Addr) (ct : Nat) (v1 v3 v4 : Value) (A B P : Nat) (n₀ : Nat) (ca : Option Addr) (len cp : Nat) (z : List Int) (s : Nat × Int) (V : World) (a0 : Act) (D : Nat → Prop) (a : Act) (w : World) : Prop :=
  FrameIs a0 [3, 20, 21, 22, 23, 24, 25, 26, 27] a ∧ HBT (D 6) A B V w ∧ ∃ (s2 : Nat × Int), (D 0 → a.eval (.tmp 20) = shotV r.cpu v1 (.slice ta r.trace.length ct) v3 v4 r.jam) ∧ (D 1 → a.eval (.tmp 21) = .pointer (some ⟨B, 0, none⟩)) ∧ (D 2 → a.eval (.tmp 22) = .pointer (some ⟨P, 12, none⟩)) ∧ (D 3 → a.eval (.tmp 23) = .slice ta r.trace.length ct) ∧ (D 4 → a.eval (.tmp 24) = .int .i64 (r.trace.length : Int)) ∧ (D 5 → a.eval (.tmp 25) = .int .i64 ((r.trace.length : Int) + 3)) ∧ (D 6 → a.eval (.tmp 26) = .int .i64 (belowV z len s ((r.trace.length : Int) + 3)) ∧ (Drawn n₀ B ca len cp z s2 w)) ∧ (D 7 → a.eval (.tmp 27) = .int .i64 (belowV z len s ((r.trace.length : Int) + 3) - 1) ∧ D 6) ∧ (D 8 → BoxN w A 35 (shotCells r.cpu v1 (.slice ta r.trace.length ct) v3 v4 r.jam)) ∧ (D 9 → a.eval (.tmp 3) = .int .i64 (belowV z len s ((r.trace.length : Int) + 3) - 1) ∧ D 6) ∧ (∃ cs : Array Value, BoxN w A 35 cs ∧ cs.size = 16)

set_option maxRecDepth 100000 in
set_option maxHeartbeats 4000000 in
theorem unitsReg4 (r : ShotI) (ta : Option Addr) (ct : Nat) (v1 v3 v4 : Value) (A B P : Nat) (n₀ : Nat) (ca : Option Addr) (len cp : Nat) (z : List Int) (s : Nat × Int) (V : World) {cA : Array Value} (hr : r.trace.length ≤ 1048576) (h1 : ∃ x n k, v1 = .slice x n k) (h3 : ∃ x n k, v3 = .slice x n k) (h4' : ∃ x n k, v4 = .slice x n k) (hP : BoxN V P 35 (shotCells r.cpu v1 (.slice ta r.trace.length ct) v3 v4 r.jam)) (hA : BoxN V A 35 cA) (hAz : cA.size = 16) (hd : Drawn n₀ B ca len cp z s V) (hAB : A + 1 = B) (hn0 : n₀ ≤ A) (hBP : B < P) (a0 : Act) (h2 : a0.eval (.tmp 2) = .pointer (some ⟨A, 0, none⟩)) (h4 : a0.eval (.tmp 4) = .pointer (some ⟨B, 0, none⟩)) (h7 : a0.eval (.tmp 7) = .pointer (some ⟨P, 0, none⟩)) (hsz : a0.tmps.size = 28) (Q : Exit → Act → World → Prop)
    (hQ : ∀ (a : Act) (w : World), FrameIs a0 [3, 20, 21, 22, 23, 24, 25, 26, 27] a → (∃ s2, a.eval (.tmp 3) = .int .i64 (belowV z len s ((r.trace.length : Int) + 3) - 1) ∧ BoxN w A 35 (shotCells r.cpu v1 (.slice ta r.trace.length ct) v3 v4 r.jam) ∧ Drawn n₀ B ca len cp z s2 w ∧ Span A (B + 1) V w) → Q .normal a w)
    (ops : Array Oper) (hops : regionOps 4 (Try.f7.body.getD .skip) = some ops) (id : Nat) : (Code.region id ops true).wp Try.prog Q a0 V := by
  obtain ⟨hbk, hn, o0, o1, o2, o3, o4, o5, o6, o7, o8, o9, u3_2, u4_3, u5_4, u6_1, u6_5, u7_6, u8_0, u9_7⟩ := unitsReg4_ops ops hops
  clear hops
  have hBV := hd.lt
  refine wp_region_facts (by kernel_rfl) hbk (unitsReg4_I r ta ct v1 v3 v4 A B P n₀ ca len cp z s V a0) ?_ ?_ id a0 V ?_
  · intro i hin D a w hnd hdep hI
    obtain ⟨hf, hb, s2, f0, f1, f2, f3, f4, f5, f6, f7, f8, f9, pm0⟩ := hI
    rw [hn] at hin
    have hz : a.tmps.size = 28 := hf.size.trans hsz
    have hbs := hb.size
    have hSl0 := hA.lt
    have rf := Below.refl w.heap.size w
    have K0 : ∀ {d : Nat} {v : Value} {w' : World}, Below w.heap.size w w' → D 0 → (hd : 20 ≠ d := by decide) → (a.put (some d) v).eval (.tmp 20) = shotV r.cpu v1 (.slice ta r.trace.length ct) v3 v4 r.jam := fun {d v} {w'} hbw h hd => by have g0 := f0 h; exact ((eval_put_ne hd).trans g0)
    have K1 : ∀ {d : Nat} {v : Value} {w' : World}, Below w.heap.size w w' → D 1 → (hd : 21 ≠ d := by decide) → (a.put (some d) v).eval (.tmp 21) = .pointer (some ⟨B, 0, none⟩) := fun {d v} {w'} hbw h hd => by have g0 := f1 h; exact ((eval_put_ne hd).trans g0)
    have K2 : ∀ {d : Nat} {v : Value} {w' : World}, Below w.heap.size w w' → D 2 → (hd : 22 ≠ d := by decide) → (a.put (some d) v).eval (.tmp 22) = .pointer (some ⟨P, 12, none⟩) := fun {d v} {w'} hbw h hd => by have g0 := f2 h; exact ((eval_put_ne hd).trans g0)
    have K3 : ∀ {d : Nat} {v : Value} {w' : World}, Below w.heap.size w w' → D 3 → (hd : 23 ≠ d := by decide) → (a.put (some d) v).eval (.tmp 23) = .slice ta r.trace.length ct := fun {d v} {w'} hbw h hd => by have g0 := f3 h; exact ((eval_put_ne hd).trans g0)
    have K4 : ∀ {d : Nat} {v : Value} {w' : World}, Below w.heap.size w w' → D 4 → (hd : 24 ≠ d := by decide) → (a.put (some d) v).eval (.tmp 24) = .int .i64 (r.trace.length : Int) := fun {d v} {w'} hbw h hd => by have g0 := f4 h; exact ((eval_put_ne hd).trans g0)
    have K5 : ∀ {d : Nat} {v : Value} {w' : World}, Below w.heap.size w w' → D 5 → (hd : 25 ≠ d := by decide) → (a.put (some d) v).eval (.tmp 25) = .int .i64 ((r.trace.length : Int) + 3) := fun {d v} {w'} hbw h hd => by have g0 := f5 h; exact ((eval_put_ne hd).trans g0)
    have K6 : ∀ {d : Nat} {v : Value} {w' : World}, Below w.heap.size w w' → D 6 → (hd : 26 ≠ d := by decide) → (a.put (some d) v).eval (.tmp 26) = .int .i64 (belowV z len s ((r.trace.length : Int) + 3)) ∧ (Drawn n₀ B ca len cp z s2 w') := fun {d v} {w'} hbw h hd => by obtain ⟨g0, g1⟩ := f6 h; exact ⟨((eval_put_ne hd).trans g0), (g1.below hbw)⟩
    have K7 : ∀ {d : Nat} {v : Value} {w' : World}, Below w.heap.size w w' → D 7 → (hd : 27 ≠ d := by decide) → (a.put (some d) v).eval (.tmp 27) = .int .i64 (belowV z len s ((r.trace.length : Int) + 3) - 1) ∧ (6 = i ∨ D 6) := fun {d v} {w'} hbw h hd => by obtain ⟨g0, g1⟩ := f7 h; exact ⟨((eval_put_ne hd).trans g0), (Or.inr g1)⟩
    have K8 : ∀ {w' : World}, Below w.heap.size w w' → D 8 → BoxN w' A 35 (shotCells r.cpu v1 (.slice ta r.trace.length ct) v3 v4 r.jam) := fun {w'} hbw h => by have g0 := f8 h; exact (g0.below hbw)
    have K9 : ∀ {d : Nat} {v : Value} {w' : World}, Below w.heap.size w w' → D 9 → (hd : 3 ≠ d := by decide) → (a.put (some d) v).eval (.tmp 3) = .int .i64 (belowV z len s ((r.trace.length : Int) + 3) - 1) ∧ (6 = i ∨ D 6) := fun {d v} {w'} hbw h hd => by obtain ⟨g0, g1⟩ := f9 h; exact ⟨((eval_put_ne hd).trans g0), (Or.inr g1)⟩
    obtain (rfl | rfl | rfl | rfl | rfl | rfl | rfl | rfl | rfl | rfl) : i = 0 ∨ i = 1 ∨ i = 2 ∨ i = 3 ∨ i = 4 ∨ i = 5 ∨ i = 6 ∨ i = 7 ∨ i = 8 ∨ i = 9 := by omega
    · refine op_load o0 ((hf.eval (by decide)).trans h7) (load_part (hP.span hb.span (by omega)) 0 (shotCells r.cpu v1 (.slice ta r.trace.length ct) v3 v4 r.jam) (by kernel_rfl) (by kernel_rfl) (by kernel_rfl)) ?_
      exact ⟨hf.put (by decide) _, hb.up Or.inr, s2, fun _ => eval_put_self (by rw [hz]; decide), fun h => K1 rf (nr h), fun h => K2 rf (nr h), fun h => K3 rf (nr h), fun h => K4 rf (nr h), fun h => K5 rf (nr h), fun h => K6 rf (nr h), fun h => K7 rf (nr h), fun h => K8 rf (nr h), fun h => K9 rf (nr h), pm0⟩
    · refine op_move o1 ((hf.eval (by decide)).trans h4) ?_
      exact ⟨hf.put (by decide) _, hb.up Or.inr, s2, fun h => K0 rf (nr h), fun _ => eval_put_self (by rw [hz]; decide), fun h => K2 rf (nr h), fun h => K3 rf (nr h), fun h => K4 rf (nr h), fun h => K5 rf (nr h), fun h => K6 rf (nr h), fun h => K7 rf (nr h), fun h => K8 rf (nr h), fun h => K9 rf (nr h), pm0⟩
    · refine wpOp_val (v := .pointer (some ⟨P, 12, none⟩)) (w' := w) o2 (fun o ho => by unfold execOp; rw [ho]; dsimp only; rw [(hf.eval (by decide)).trans h7]; simp [go_sem]) ?_
      exact ⟨hf.put (by decide) _, hb.up Or.inr, s2, fun h => K0 rf (nr h), fun h => K1 rf (nr h), fun _ => eval_put_self (by rw [hz]; decide), fun h => K3 rf (nr h), fun h => K4 rf (nr h), fun h => K5 rf (nr h), fun h => K6 rf (nr h), fun h => K7 rf (nr h), fun h => K8 rf (nr h), fun h => K9 rf (nr h), pm0⟩
    · have d2 := waits u3_2 hdep
      have e2_0 := f2 d2
      refine op_load (v := .slice ta r.trace.length ct) o3 e2_0 (by have hc := (hP.span hb.span (by omega)).cell 12 (.slice ta r.trace.length ct) rfl; simp [go_sem, hc]) ?_
      exact ⟨hf.put (by decide) _, hb.up Or.inr, s2, fun h => K0 rf (nr h), fun h => K1 rf (nr h), fun h => K2 rf (nr h), fun _ => eval_put_self (by rw [hz]; decide), fun h => K4 rf (nr h), fun h => K5 rf (nr h), fun h => K6 rf (nr h), fun h => K7 rf (nr h), fun h => K8 rf (nr h), fun h => K9 rf (nr h), pm0⟩
    · have d3 := waits u4_3 hdep
      have e3_0 := f3 d3
      refine wpOp_val (v := .int .i64 (r.trace.length : Int)) (w' := w) o4 (fun o ho => by unfold execOp; rw [ho]; simp only [resolve, invoke, builtin, List.map_toArray, List.map_cons, List.map_nil, e3_0]; simp [go_sem]) ?_
      exact ⟨hf.put (by decide) _, hb.up Or.inr, s2, fun h => K0 rf (nr h), fun h => K1 rf (nr h), fun h => K2 rf (nr h), fun h => K3 rf (nr h), fun _ => eval_put_self (by rw [hz]; decide), fun h => K5 rf (nr h), fun h => K6 rf (nr h), fun h => K7 rf (nr h), fun h => K8 rf (nr h), fun h => K9 rf (nr h), pm0⟩
    · have d4 := waits u5_4 hdep
      have e4_0 := f4 d4
      refine wpOp_val (v := .int .i64 ((r.trace.length : Int) + 3)) (w' := w) o5 (fun o ho => by unfold execOp; rw [ho]; dsimp only; simp only [List.map_toArray, List.map_cons, List.map_nil, e4_0, eval_const]; simp [go_sem, wrap3 hr]) ?_
      exact ⟨hf.put (by decide) _, hb.up Or.inr, s2, fun h => K0 rf (nr h), fun h => K1 rf (nr h), fun h => K2 rf (nr h), fun h => K3 rf (nr h), fun h => K4 rf (nr h), fun _ => eval_put_self (by rw [hz]; decide), fun h => K6 rf (nr h), fun h => K7 rf (nr h), fun h => K8 rf (nr h), fun h => K9 rf (nr h), pm0⟩
    · have d1 := waits u6_1 hdep
      have e1_0 := f1 d1
      have d5 := waits u6_5 hdep
      have e5_0 := f5 d5
      refine op_call o6 (by simp only [List.map_toArray, List.map_cons, List.map_nil, e1_0, e5_0]) rfl ((below_drawn n₀ B ca len cp z s ((r.trace.length : Int) + 3) w (hd.span2 (hb.own.resolve_left hnd) hn0 (.inr (by omega)))).mono ?_)
      rintro e w' ⟨rfl, hdr, hg⟩
      have hsp := Span.of_grown hg (Nat.le_refl _) (Nat.lt_succ_self _)
      refine ⟨_, rfl, ?_⟩
      exact ⟨hf.put (by decide) _, hb.draw hg (by omega) (.inl rfl), belowS len s ((r.trace.length : Int) + 3), fun h => by have h' := (nr h); have g0 := f0 h'; exact ((eval_put_ne (by decide)).trans g0), fun h => by have h' := (nr h); have g0 := f1 h'; exact ((eval_put_ne (by decide)).trans g0), fun h => by have h' := (nr h); have g0 := f2 h'; exact ((eval_put_ne (by decide)).trans g0), fun h => by have h' := (nr h); have g0 := f3 h'; exact ((eval_put_ne (by decide)).trans g0), fun h => by have h' := (nr h); have g0 := f4 h'; exact ((eval_put_ne (by decide)).trans g0), fun h => by have h' := (nr h); have g0 := f5 h'; exact ((eval_put_ne (by decide)).trans g0), fun _ => ⟨eval_put_self (by rw [hz]; decide), hdr⟩, fun h => by have h' := (nr h); obtain ⟨g0, g1⟩ := f7 h'; exact absurd g1 hnd, fun h => by have h' := (nr h); have g0 := f8 h'; exact (g0.span hsp (by omega)), fun h => by have h' := (nr h); obtain ⟨g0, g1⟩ := f9 h'; exact absurd g1 hnd, by obtain ⟨cs, hcs, hcz⟩ := pm0; exact ⟨cs, hcs.span hsp (by omega), hcz⟩⟩
    · have d6 := waits u7_6 hdep
      obtain ⟨e6_0, e6_1⟩ := f6 d6
      refine wpOp_val (v := .int .i64 (belowV z len s ((r.trace.length : Int) + 3) - 1)) (w' := w) o7 (fun o ho => by unfold execOp; rw [ho]; dsimp only; simp only [List.map_toArray, List.map_cons, List.map_nil, e6_0, eval_const]; simp [go_sem, wrapB hr]) ?_
      exact ⟨hf.put (by decide) _, hb.up Or.inr, s2, fun h => K0 rf (nr h), fun h => K1 rf (nr h), fun h => K2 rf (nr h), fun h => K3 rf (nr h), fun h => K4 rf (nr h), fun h => K5 rf (nr h), fun h => K6 rf (nr h), fun _ => ⟨eval_put_self (by rw [hz]; decide), Or.inr d6⟩, fun h => K8 rf (nr h), fun h => K9 rf (nr h), pm0⟩
    · have d0 := waits u8_0 hdep
      have e0_0 := f0 d0
      obtain ⟨cs, hcs, hcz⟩ := pm0
      obtain ⟨w', hst, hnew, hsp⟩ := (storeAny h1 h3 h4') hcs hcz
      refine op_store o8 ((hf.eval (by decide)).trans h2) e0_0 hst ?_
      exact ⟨hf, (hb.set hsp (by omega)).up Or.inr, s2, fun h => by have h' := (nr h); have g0 := f0 h'; exact g0, fun h => by have h' := (nr h); have g0 := f1 h'; exact g0, fun h => by have h' := (nr h); have g0 := f2 h'; exact g0, fun h => by have h' := (nr h); have g0 := f3 h'; exact g0, fun h => by have h' := (nr h); have g0 := f4 h'; exact g0, fun h => by have h' := (nr h); have g0 := f5 h'; exact g0, fun h => by have h' := (nr h); obtain ⟨g0, g1⟩ := f6 h'; exact ⟨g0, (g1.span2 hsp hn0 (.inr (by omega)))⟩, fun h => by have h' := (nr h); obtain ⟨g0, g1⟩ := f7 h'; exact ⟨g0, (Or.inr g1)⟩, fun _ => hnew, fun h => by have h' := (nr h); obtain ⟨g0, g1⟩ := f9 h'; exact ⟨g0, (Or.inr g1)⟩, ⟨_, hnew, rfl⟩⟩
    · have d7 := waits u9_7 hdep
      obtain ⟨e7_0, e7_1⟩ := f7 d7
      refine op_assign o9 e7_0 ?_
      exact ⟨hf.put (by decide) _, hb.up Or.inr, s2, fun h => K0 rf (nr h), fun h => K1 rf (nr h), fun h => K2 rf (nr h), fun h => K3 rf (nr h), fun h => K4 rf (nr h), fun h => K5 rf (nr h), fun h => K6 rf (nr h), fun h => K7 rf (nr h), fun h => K8 rf (nr h), fun _ => ⟨eval_put_self (by rw [hz]; decide), Or.inr e7_1⟩, pm0⟩
  · intro D a w hD hI
    obtain ⟨hf, hb, s2, f0, f1, f2, f3, f4, f5, f6, f7, f8, f9, pm0⟩ := hI
    rw [hn] at hD
    have e0_0 := f0 (hD 0 (by decide))
    have e1_0 := f1 (hD 1 (by decide))
    have e2_0 := f2 (hD 2 (by decide))
    have e3_0 := f3 (hD 3 (by decide))
    have e4_0 := f4 (hD 4 (by decide))
    have e5_0 := f5 (hD 5 (by decide))
    obtain ⟨e6_0, e6_1⟩ := f6 (hD 6 (by decide))
    obtain ⟨e7_0, e7_1⟩ := f7 (hD 7 (by decide))
    have e8_0 := f8 (hD 8 (by decide))
    obtain ⟨e9_0, e9_1⟩ := f9 (hD 9 (by decide))
    exact hQ a w hf ⟨s2, e9_0, e8_0, e6_1, hb.span⟩
  · exact ⟨FrameIs.refl _ _, (HBT.start A B V).up False.elim, (0, 0), fun h => False.elim h, fun h => False.elim h, fun h => False.elim h, fun h => False.elim h, fun h => False.elim h, fun h => False.elim h, fun h => False.elim h, fun h => False.elim h, fun h => False.elim h, fun h => False.elim h, ⟨_, hA, hAz⟩⟩

end Go.Proofs.Ytckfdbjjjgfbfaa
