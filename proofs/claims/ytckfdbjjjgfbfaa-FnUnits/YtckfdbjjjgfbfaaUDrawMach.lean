/-
  Contracts over the program: a machine that is drawn (l07Machine).
-/
import Derived.Test.YtckfdbjjjgfbfaaUDrawLoop
import Derived.Test.YtckfdbjjjgfbfaaUStepBack
import Derived.Test.YtckfdbjjjgfbfaaURegRun
import Derived.Deep.DeepCutAuto
namespace Go.Proofs.Ytckfdbjjjgfbfaa
set_option linter.unusedVariables false
set_option linter.unusedSimpArgs false
open Go.RowKit

def encBy : Enc Nat := ⟨5, 1, fun x => [.int .u8 x], fun _ => rfl⟩

theorem flatBy : ∀ L : List Nat, L.flatMap encBy.cells = L.map u8V
  | [] => rfl
  | x :: r => by rw [List.flatMap_cons, List.map_cons, flatBy r]; rfl

theorem oneBy : ∀ x : Nat, ∀ u ∈ encBy.cells x, u.oneCell' = true := fun x u hu => by simp [encBy] at hu; subst hu; rfl

theorem infoByA : (Try.prog.info? 5).map (fun i => (i.zero, i.size, i.bytes)) = some (some (.int .u8 0), 1, 1) := by kernel_rfl

theorem getD_app (L X : List Nat) (hL : ∀ i, i < L.length → L.getD i 0 < 256) (hX : ∀ i, i < X.length → X.getD i 0 < 256) : ∀ i, i < (L ++ X).length → (L ++ X).getD i 0 < 256 := fun i hi => by
  rw [List.length_append] at hi
  by_cases h : i < L.length
  · have := hL i h
    simp only [List.getD_eq_getElem?_getD, List.getElem?_append_left h] at this ⊢
    exact this
  · have := hX (i - L.length) (by omega)
    simp only [List.getD_eq_getElem?_getD, List.getElem?_append_right (by omega : L.length ≤ i)] at this ⊢
    exact this

/-- Bytes behind bytes. -/
theorem bytes_append {w : World} {lo hi : Nat} {v : Value} {L X : List Nat} (h : SegB w lo hi v L) (hhi : hi ≤ w.heap.size) (hlo : lo ≤ w.heap.size) {ax : Option Addr} {cx : Nat} (hX : RowB w ax X) (h0 : 0 < X.length) (hsm : L.length ≤ 1000000) (hsx : X.length ≤ 1000000) :
    ∃ g' cap' w', (∀ ty, (Builtin.append_ #[22, 22] ty #[v, .slice ax X.length cx]).run Try.prog w = .ok (.slice (some ⟨g', 0, none⟩) (L ++ X).length cap') w') ∧ SegB w' g' (g' + 1) (.slice (some ⟨g', 0, none⟩) (L ++ X).length cap') (L ++ X) ∧ Span lo hi w w' ∧ ((lo ≤ g' ∧ g' < hi) ∨ g' = w.heap.size) ∧ g' < w'.heap.size := by
  obtain ⟨g, o, rfl, _, hc⟩ := hX.2 h0
  have h' : SegG encBy w lo hi v L := ⟨by unfold OwnG; rw [flatBy]; exact h.1.2, h.2⟩
  obtain ⟨g', cap', w', hr, hs, hsp, hat, hlt⟩ := seg_append encBy 0 (by decide) 22 (.int .u8 0) 1 Try.underlying22 infoByA rfl h' hhi hlo g o cx (X := X) (fun j u hu => by
    rw [flatBy, List.getElem?_map] at hu
    cases hj : X[j]? with
    | none => rw [hj] at hu; cases hu
    | some x =>
      rw [hj] at hu
      simp only [Option.map_some, Option.some.injEq] at hu
      have hl := (List.getElem?_eq_some_iff.1 hj).1
      rw [hc j hl, ← hu, List.getD_eq_getElem?_getD, hj]
      rfl) oneBy h0 (by omega) (by omega)
  rw [← List.length_append] at hr hs
  refine ⟨g', cap', w', hr, ⟨⟨getD_app L X h.1.1 hX.1, ?_⟩, hs.2⟩, hsp, hat, hlt⟩
  have := hs.1
  unfold OwnG at this
  rw [flatBy] at this
  exact this

theorem rowNewA (w : World) (L : List Nat) (hb : ∀ i, i < L.length → L.getD i 0 < 256) : RowB (w.alloc (.cells (L.map u8V).toArray 5)) (some ⟨w.heap.size, 0, none⟩) L :=
  ⟨hb, fun _ => ⟨w.heap.size, 0, rfl, by simp, fun i hi => by
    rw [Nat.zero_add]
    exact (BoxN.new w 5 (L.map u8V).toArray).cell i _ (by simp [List.getD_eq_getElem?_getD, hi])⟩⟩

theorem SegB.grown {w w' : World} {lo hi B : Nat} {v : Value} {L : List Nat} (h : SegB w lo hi v L) (hg : w.grownBy w' (some B)) (hB : B < lo) : SegB w' lo hi v L := ⟨h.1.grown hg hB, h.2⟩

theorem SegG.grown {α : Type} {e : Enc α} {w w' : World} {lo hi B : Nat} {v : Value} {L : List α} (h : SegG e w lo hi v L) (hg : w.grownBy w' (some B)) (hB : B < lo) : SegG e w' lo hi v L := ⟨h.1.grown hg hB, h.2⟩

def machL (x : Int) : List Int := [4096, 8448, 33024, 512, x]

theorem machL_bd (q : Nat) (hq : q < 200) (i : Nat) : ∃ Q : Nat, (machL (61440 + (q : Int)))[i]?.getD 0 = (Q : Int) ∧ Q < 65536 := by
  unfold machL
  rcases i with _ | _ | _ | _ | _ | i
  · exact ⟨4096, rfl, by omega⟩
  · exact ⟨8448, rfl, by omega⟩
  · exact ⟨33024, rfl, by omega⟩
  · exact ⟨512, rfl, by omega⟩
  · exact ⟨61440 + q, rfl, by omega⟩
  · exact ⟨0, rfl, by omega⟩

theorem fillL_le8 {L : List Nat} {addr : Nat} {X : List Nat} (h : L.length ≤ 8192) : (fillL L addr X).length ≤ 8192 := by
  unfold fillL; split
  · rw [fillAt_len]; exact h
  · simp

theorem machReg_ops (ops : Array Oper) (h : regionOps 10 (Try.f20.body.getD .skip) = some ops) : backward ops = true ∧ ops.size = 4 ∧ IsOp ops 0 (some 70) (.load 28 (.tmp 5)) ∧ IsOp ops 1 (some 71) (.load 30 (.tmp 4)) ∧ IsOp ops 2 none (.store 28 (.tmp 2) (.tmp 70)) ∧ IsOp ops 3 none (.store 30 (.tmp 3) (.tmp 71)) ∧ Waits ops 2 0 ∧ Waits ops 3 1 := by
  obtain rfl : ops = (regionOps 10 (Try.f20.body.getD .skip)).getD #[] := by rw [h]; rfl
  exact ⟨by kernel_rfl, by kernel_rfl, by unfold IsOp; kernel_rfl, by unfold IsOp; kernel_rfl, by unfold IsOp; kernel_rfl, by unfold IsOp; kernel_rfl, by unfold Waits; kernel_rfl, by unfold Waits; kernel_rfl⟩

abbrev machReg_I (c : CpuN) (sa : Option Addr) (n cap P R A : Nat) (V : World) (a0 : Act) (D : Nat → Prop) (a : Act) (w : World) : Prop :=
  FrameIs a0 [70, 71] a ∧ Span (A) (A + 1 + 1) V w ∧ ∃ (un : Unit), (D 0 → a.eval (.tmp 70) = cpuV c) ∧ (D 1 → a.eval (.tmp 71) = ramV (.slice sa n cap)) ∧ (D 2 → BoxN w A 28 (cpuCells c)) ∧ (D 3 → BoxN w (A + 1) 30 #[.slice sa n cap]) ∧ (∃ cs : Array Value, BoxN w A 28 cs ∧ cs.size = 11) ∧ (∃ cs : Array Value, BoxN w (A + 1) 30 cs ∧ cs.size = 1)

set_option maxRecDepth 100000 in
set_option maxHeartbeats 4000000 in
theorem machReg (c : CpuN) (sa : Option Addr) (n cap P R A : Nat) (V : World) {cA cB : Array Value} (hP : BoxN V P 28 (cpuCells c)) (hR : BoxN V R 30 #[.slice sa n cap]) (hA : BoxN V A 28 cA) (hAz : cA.size = 11) (hB : BoxN V (A + 1) 30 cB) (hBz : cB.size = 1) (hPA : A + 1 + 1 ≤ P) (hRA : A + 1 + 1 ≤ R) (a0 : Act) (h2 : a0.eval (.tmp 2) = .pointer (some ⟨A, 0, none⟩)) (h3 : a0.eval (.tmp 3) = .pointer (some ⟨(A + 1), 0, none⟩)) (h4 : a0.eval (.tmp 4) = .pointer (some ⟨R, 0, none⟩)) (h5 : a0.eval (.tmp 5) = .pointer (some ⟨P, 0, none⟩)) (hsz : a0.tmps.size = 72) (Q : Exit → Act → World → Prop)
    (hQ : ∀ a w, FrameIs a0 [70, 71] a → BoxN w A 28 (cpuCells c) ∧ BoxN w (A + 1) 30 #[.slice sa n cap] ∧ Span A (A + 1 + 1) V w → Q .normal a w)
    (ops : Array Oper) (hops : regionOps 10 (Try.f20.body.getD .skip) = some ops) (id : Nat) : (Code.region id ops true).wp Try.prog Q a0 V := by
  obtain ⟨hbk, hn, o0, o1, o2, o3, u2_0, u3_1⟩ := machReg_ops ops hops
  clear hops
  refine wp_region_facts (by kernel_rfl) hbk (machReg_I c sa n cap P R A V a0) ?_ ?_ id a0 V ?_
  · intro i hin D a w hnd hdep hI
    obtain ⟨hf, hb, un, f0, f1, f2, f3, pm0, pm1⟩ := hI
    rw [hn] at hin
    have hz : a.tmps.size = 72 := hf.size.trans hsz
    have hbs := hb.size
    have hSl0 := hA.lt
    have hSl1 := hB.lt
    have rf := Below.refl w.heap.size w
    have K0 : ∀ {d : Nat} {v : Value} {w' : World}, Below w.heap.size w w' → D 0 → (hd : 70 ≠ d := by decide) → (a.put (some d) v).eval (.tmp 70) = cpuV c := fun {d v} {w'} hbw h hd => by have g0 := f0 h; exact ((eval_put_ne hd).trans g0)
    have K1 : ∀ {d : Nat} {v : Value} {w' : World}, Below w.heap.size w w' → D 1 → (hd : 71 ≠ d := by decide) → (a.put (some d) v).eval (.tmp 71) = ramV (.slice sa n cap) := fun {d v} {w'} hbw h hd => by have g0 := f1 h; exact ((eval_put_ne hd).trans g0)
    have K2 : ∀ {w' : World}, Below w.heap.size w w' → D 2 → BoxN w' A 28 (cpuCells c) := fun {w'} hbw h => by have g0 := f2 h; exact (g0.below hbw)
    have K3 : ∀ {w' : World}, Below w.heap.size w w' → D 3 → BoxN w' (A + 1) 30 #[.slice sa n cap] := fun {w'} hbw h => by have g0 := f3 h; exact (g0.below hbw)
    obtain (rfl | rfl | rfl | rfl) : i = 0 ∨ i = 1 ∨ i = 2 ∨ i = 3 := by omega
    · refine op_load o0 ((hf.eval (by decide)).trans h5) (loadIC (hP.span hb (by omega))) ?_
      exact ⟨hf.put (by decide) _, hb, un, fun _ => eval_put_self (by rw [hz]; decide), fun h => K1 rf (nr h), fun h => K2 rf (nr h), fun h => K3 rf (nr h), pm0, pm1⟩
    · refine op_load o1 ((hf.eval (by decide)).trans h4) (loadIR (hR.span hb (by omega))) ?_
      exact ⟨hf.put (by decide) _, hb, un, fun h => K0 rf (nr h), fun _ => eval_put_self (by rw [hz]; decide), fun h => K2 rf (nr h), fun h => K3 rf (nr h), pm0, pm1⟩
    · have d0 := waits u2_0 hdep
      have e0_0 := f0 d0
      obtain ⟨cs, hcs, hcz⟩ := pm0
      obtain ⟨w', hst, hnew, hsp⟩ := storeIC hcs hcz
      refine op_store o2 ((hf.eval (by decide)).trans h2) e0_0 hst ?_
      have hb' := hb.trans (hsp.wide (by omega) (by omega))
      exact ⟨hf, hb', un, fun h => by have h' := (nr h); have g0 := f0 h'; exact g0, fun h => by have h' := (nr h); have g0 := f1 h'; exact g0, fun _ => hnew, fun h => by have h' := (nr h); have g0 := f3 h'; exact (g0.span hsp (by omega)), ⟨_, hnew, rfl⟩, by obtain ⟨cs, hcs, hcz⟩ := pm1; exact ⟨cs, hcs.span hsp (by omega), hcz⟩⟩
    · have d1 := waits u3_1 hdep
      have e1_0 := f1 d1
      obtain ⟨cs, hcs, hcz⟩ := pm1
      obtain ⟨w', hst, hnew, hsp⟩ := storeIR hcs hcz
      refine op_store o3 ((hf.eval (by decide)).trans h3) e1_0 hst ?_
      have hb' := hb.trans (hsp.wide (by omega) (by omega))
      exact ⟨hf, hb', un, fun h => by have h' := (nr h); have g0 := f0 h'; exact g0, fun h => by have h' := (nr h); have g0 := f1 h'; exact g0, fun h => by have h' := (nr h); have g0 := f2 h'; exact (g0.span hsp (by omega)), fun _ => hnew, by obtain ⟨cs, hcs, hcz⟩ := pm0; exact ⟨cs, hcs.span hsp (by omega), hcz⟩, ⟨_, hnew, rfl⟩⟩
  · intro D a w hD hI
    obtain ⟨hf, hb, un, f0, f1, f2, f3, pm0, pm1⟩ := hI
    rw [hn] at hD
    have e0_0 := f0 (hD 0 (by decide))
    have e1_0 := f1 (hD 1 (by decide))
    have e2_0 := f2 (hD 2 (by decide))
    have e3_0 := f3 (hD 3 (by decide))
    exact hQ a w hf ⟨e2_0, e3_0, hb⟩
  · exact ⟨FrameIs.refl _ _, (Span.refl _ _ _).drew, (), fun h => False.elim h, fun h => False.elim h, fun h => False.elim h, fun h => False.elim h, ⟨_, hA, hAz⟩, ⟨_, hB, hBz⟩⟩

/-- A machine that is drawn: some processor, some memory of its own. -/
def DrewMach (n₀ B : Nat) (a : Option Addr) (len cap : Nat) (z : List Int) (w : World) (e : Ending) (w' : World) : Prop :=
  ∃ (c : CpuN) (v : Value) (M : List Nat) (s : Nat × Int), c.ok ∧ M.length ≤ 8192 ∧ e = .returned (.tuple #[cpuV c, ramV v]) ∧ OwnB w' w.heap.size v M ∧ Drawn n₀ B a len cap z s w' ∧ w.grownBy w' (some B)

set_option maxRecDepth 100000 in
set_option maxHeartbeats 4000000 in
theorem mach_drawn (n₀ B : Nat) (a : Option Addr) (len cap : Nat) (z : List Int) (s : Nat × Int) (w : World) (h : Drawn n₀ B a len cap z s w) :
    Calls Try.prog 20 #[.pointer (some ⟨B, 0, none⟩)] w (DrewMach n₀ B a len cap z w) := by
  have hlt := Lib.hid h.lt
  have hgg : w.grownBy w (some B) := grown_of_below (Below.refl _ _)
  have y1 := BoxN.new w 28 #[.int .u8 0, .int .u8 0, .int .u8 0, .int .u8 0, .int .u16 0, .bool false, .bool false, .bool false, .bool false, .bool false, .bool false]
  have a2 := alw w (.cells #[.int .u8 0, .int .u8 0, .int .u8 0, .int .u8 0, .int .u16 0, .bool false, .bool false, .bool false, .bool false, .bool false, .bool false] 28)
  have z3 : Hid ((w.alloc (.cells #[.int .u8 0, .int .u8 0, .int .u8 0, .int .u8 0, .int .u16 0, .bool false, .bool false, .bool false, .bool false, .bool false, .bool false] 28)).heap.size = w.heap.size + 1) := Lib.hid (World.size_alloc _ _)
  have G4 := grown_trans hgg (grown_of_below a2)
  have D5 := h.below a2
  have z6 := Lib.hid a2.size
  clear hgg h
  have y7 := BoxN.new (w.alloc (.cells #[.int .u8 0, .int .u8 0, .int .u8 0, .int .u8 0, .int .u16 0, .bool false, .bool false, .bool false, .bool false, .bool false, .bool false] 28)) 30 #[.slice none 0 0]
  have a8 := alw (w.alloc (.cells #[.int .u8 0, .int .u8 0, .int .u8 0, .int .u8 0, .int .u16 0, .bool false, .bool false, .bool false, .bool false, .bool false, .bool false] 28)) (.cells #[.slice none 0 0] 30)
  have z9 : Hid (((w.alloc (.cells #[.int .u8 0, .int .u8 0, .int .u8 0, .int .u8 0, .int .u16 0, .bool false, .bool false, .bool false, .bool false, .bool false, .bool false] 28)).alloc (.cells #[.slice none 0 0] 30)).heap.size = (w.alloc (.cells #[.int .u8 0, .int .u8 0, .int .u8 0, .int .u8 0, .int .u16 0, .bool false, .bool false, .bool false, .bool false, .bool false, .bool false] 28)).heap.size + 1) := Lib.hid (World.size_alloc _ _)
  have G10 := grown_trans G4 (grown_of_below a8)
  have D11 := D5.below a8
  have p12 := y1.below a8
  have z13 := Lib.hid a8.size
  clear G4 D5 y1 a2
  go_enter Try.func20, Try.ntmps20
  clear a8
  replace p12 := Lib.hid p12
  replace y7 := Lib.hid y7
  replace G10 := Lib.hid G10
  replace D11 := Lib.hid D11
  go_wp2_with fail
  replace p12 := p12.out
  replace y7 := y7.out
  replace G10 := G10.out
  replace D11 := D11.out
  refine (ram_drawn n₀ B a len cap z s _ D11).mono ?_
  rintro e w14 ⟨v1, L, s1, hL, rfl, o1, d15, g16⟩
  obtain ⟨a1, c1, rfl⟩ := o1.len
  replace hL := Lib.hid hL
  have G17 := grown_trans G10 g16
  have u19 := Lib.hid (And.intro hlt.out (And.intro z3.out (And.intro z6.out (And.intro z9.out z13.out))))
  have p18 := p12.grown g16 (by have := u19.out; omega)
  have p20 := y7.grown g16 (by have := u19.out; omega)
  have z21 := Lib.hid g16.size
  clear G10 D11 p12 y7
  have s22 := SegB.of o1
  clear o1
  have y23 := BoxN.new w14 30 #[.slice a1 L.length c1]
  have a24 := alw w14 (.cells #[.slice a1 L.length c1] 30)
  have z25 : Hid ((w14.alloc (.cells #[.slice a1 L.length c1] 30)).heap.size = w14.heap.size + 1) := Lib.hid (World.size_alloc _ _)
  have G26 := grown_trans G17 (grown_of_below a24)
  have D27 := d15.below a24
  have p28 := p18.below a24
  have p29 := p20.below a24
  have p30 := s22.below a24
  have z31 := Lib.hid a24.size
  clear G17 d15 p18 p20 s22 g16
  clear a24
  replace p28 := Lib.hid p28
  replace p29 := Lib.hid p29
  replace y23 := Lib.hid y23
  replace p30 := Lib.hid p30
  replace G26 := Lib.hid G26
  replace D27 := Lib.hid D27
  go_wp2_with fail
  replace p28 := p28.out
  replace p29 := p29.out
  replace y23 := y23.out
  replace p30 := p30.out
  replace G26 := G26.out
  replace D27 := D27.out
  refine (cpu_drawn n₀ B a len cap z s1 _ D27).mono ?_
  rintro e w32 ⟨c, s2, hc, rfl, d33, g34⟩
  replace hc := Lib.hid hc
  have G35 := grown_trans G26 g34
  have u37 := Lib.hid (And.intro u19.out (And.intro z21.out (And.intro z25.out z31.out)))
  have p36 := p28.grown g34 (by have := u37.out; omega)
  have p38 := p29.grown g34 (by have := u37.out; omega)
  have p39 := y23.grown g34 (by have := u37.out; omega)
  have p40 := p30.grown g34 (by have := u37.out; omega)
  have z41 := Lib.hid g34.size
  clear G26 D27 p28 p29 y23 p30
  have y42 := BoxN.new w32 28 #[.int .u8 (c.A : Int), .int .u8 (c.X : Int), .int .u8 (c.Y : Int), .int .u8 (c.S : Int), .int .u16 (c.PC : Int), .bool c.N, .bool c.V, .bool c.D, .bool c.I, .bool c.Z, .bool c.C]
  have a43 := alw w32 (.cells #[.int .u8 (c.A : Int), .int .u8 (c.X : Int), .int .u8 (c.Y : Int), .int .u8 (c.S : Int), .int .u16 (c.PC : Int), .bool c.N, .bool c.V, .bool c.D, .bool c.I, .bool c.Z, .bool c.C] 28)
  have z44 : Hid ((w32.alloc (.cells #[.int .u8 (c.A : Int), .int .u8 (c.X : Int), .int .u8 (c.Y : Int), .int .u8 (c.S : Int), .int .u16 (c.PC : Int), .bool c.N, .bool c.V, .bool c.D, .bool c.I, .bool c.Z, .bool c.C] 28)).heap.size = w32.heap.size + 1) := Lib.hid (World.size_alloc _ _)
  have G45 := grown_trans G35 (grown_of_below a43)
  have D46 := d33.below a43
  have p47 := p36.below a43
  have p48 := p38.below a43
  have p49 := p39.below a43
  have p50 := p40.below a43
  have z51 := Lib.hid a43.size
  clear G35 d33 p36 p38 p39 p40 g34
  clear a43
  replace p47 := Lib.hid p47
  replace p48 := Lib.hid p48
  replace p49 := Lib.hid p49
  replace y42 := Lib.hid y42
  replace p50 := Lib.hid p50
  replace G45 := Lib.hid G45
  replace D46 := Lib.hid D46
  go_wp2_with fail
  replace p47 := p47.out
  replace p48 := p48.out
  replace p49 := p49.out
  replace y42 := y42.out
  replace p50 := p50.out
  replace G45 := G45.out
  replace D46 := D46.out
  refine (below_drawn n₀ B a len cap z s2 200 _ D46).mono ?_
  rintro e w52 ⟨rfl, d53, g54⟩
  obtain ⟨q, hq, hq2⟩ : ∃ q : Nat, belowV z len s2 200 = (q : Int) ∧ q < 200 := by
    obtain ⟨q0, q1⟩ := belowV_bound z len s2 200 (by omega)
    exact ⟨(belowV z len s2 200).toNat, by omega, by omega⟩
  rw [hq]
  clear hq
  have G55 := grown_trans G45 g54
  have u57 := Lib.hid (And.intro u37.out (And.intro z41.out (And.intro z44.out z51.out)))
  have p56 := p47.grown g54 (by have := u57.out; omega)
  have p58 := p48.grown g54 (by have := u57.out; omega)
  have p59 := p49.grown g54 (by have := u57.out; omega)
  have p60 := y42.grown g54 (by have := u57.out; omega)
  have p61 := p50.grown g54 (by have := u57.out; omega)
  have z62 := Lib.hid g54.size
  clear G45 D46 p47 p48 p49 y42 p50
  clear g54
  replace p56 := Lib.hid p56
  replace p58 := Lib.hid p58
  replace p59 := Lib.hid p59
  replace p60 := Lib.hid p60
  replace p61 := Lib.hid p61
  replace G55 := Lib.hid G55
  replace d53 := Lib.hid d53
  go_wp2_with fail
  replace p56 := p56.out
  replace p58 := p58.out
  replace p59 := p59.out
  replace p60 := p60.out
  replace p61 := p61.out
  replace G55 := G55.out
  replace d53 := d53.out
  have a63 := alw w52 (.cells ((machL (61440 + (q : Int))).map (Value.int .i64)).toArray 3)
  have hcells := ints_cells w52 (machL (61440 + (q : Int))) 3
  have z64 : Hid ((w52.alloc (.cells ((machL (61440 + (q : Int))).map (Value.int .i64)).toArray 3)).heap.size = w52.heap.size + 1) := Lib.hid (World.size_alloc _ _)
  have G65 := grown_trans G55 (grown_of_below a63)
  have D66 := d53.below a63
  have p67 := p56.below a63
  have p68 := p58.below a63
  have p69 := p59.below a63
  have p70 := p60.below a63
  have p71 := p61.below a63
  have z72 := Lib.hid a63.size
  clear G55 d53 p56 p58 p59 p60 p61
  have u73 := Lib.hid (And.intro u57.out (And.intro z62.out (And.intro z64.out z72.out)))
  clear a63
  refine (pickInt_drawn n₀ B a len cap z _ w52.heap.size 5 5 (machL (61440 + (q : Int))) _ D66 (by omega) (by omega) (by have := u73.out; omega) (by have := u73.out; omega) (fun i hi => hcells i hi)).mono ?_
  rintro e w74 ⟨rfl, d75, g76⟩
  obtain ⟨Q, hQ, hQ2⟩ : ∃ Q : Nat, (machL (61440 + (q : Int)))[(belowV z len (belowS len s2 200) ((5 : Nat) : Int)).toNat]?.getD 0 = (Q : Int) ∧ Q < 65536 := machL_bd q hq2 _
  rw [hQ]
  clear hQ hcells hq2
  have hQw : IntKind.u16.wrap (Q : Int) = (Q : Int) := by simp only [IntKind.wrap, IntKind.bits, IntKind.signed]; simp; omega
  have G77 := grown_trans G65 g76
  have p78 := p67.grown g76 (by have := u73.out; omega)
  have p79 := p68.grown g76 (by have := u73.out; omega)
  have p80 := p69.grown g76 (by have := u73.out; omega)
  have p81 := p70.grown g76 (by have := u73.out; omega)
  have p82 := p71.grown g76 (by have := u73.out; omega)
  have z83 := Lib.hid g76.size
  clear G65 D66 p67 p68 p69 p70 p71
  obtain ⟨w84, hs85, q86, sp87, z88⟩ := store_one (ty := 24) (cs' := #[.int .u8 (c.A : Int), .int .u8 (c.X : Int), .int .u8 (c.Y : Int), .int .u8 (c.S : Int), .int .u16 (Q : Int), .bool c.N, .bool c.V, .bool c.D, .bool c.I, .bool c.Z, .bool c.C]) p81 4 (.int .u16 (Q : Int)) (by kernel_rfl) (by
    have hc := p81.cell 4 (.int .u16 (c.PC : Int)) rfl
    have hf := p81.frozen 4
    simp [go_sem, hc, hf])
  replace z88 := Lib.hid z88
  replace hs85 := Lib.hid hs85
  have u90 := Lib.hid (And.intro u73.out (And.intro z83.out z88.out))
  have G89 := grown_span G77 sp87 (by have := u90.out; omega)
  have D91 := d75.span sp87 (by have := u90.out; omega)
  have p92 := p78.span sp87 (by have := u90.out; omega)
  have p93 := p79.span sp87 (by have := u90.out; omega)
  have p94 := p80.span sp87 (by have := u90.out; omega)
  have p95 := p82.span sp87 (by have := u90.out; omega)
  have z96 := Lib.hid sp87.size
  clear G77 d75 p78 p79 p80 p82
  clear g76 p81 sp87
  replace p92 := Lib.hid p92
  replace p93 := Lib.hid p93
  replace p94 := Lib.hid p94
  replace q86 := Lib.hid q86
  replace p95 := Lib.hid p95
  replace G89 := Lib.hid G89
  replace D91 := Lib.hid D91
  go_wp2_with ((with_reducible refine wpList_store_fit hs85.out ?_ ?_; focus (exact ⟨rfl, rfl, _, _, rfl, rfl, rfl⟩)))
  replace p92 := p92.out
  replace p93 := p93.out
  replace p94 := p94.out
  replace q86 := q86.out
  replace p95 := p95.out
  replace G89 := G89.out
  replace D91 := D91.out
  clear hs85
  refine (loop_drawn n₀ B a len cap z _ _ D91).mono ?_
  rintro e w97 ⟨v2, X2, s4, hl2, rfl, o2, d98, g99⟩
  obtain ⟨a2, c2, rfl⟩ := o2.len
  have G100 := grown_trans G89 g99
  have u102 := Lib.hid (And.intro u90.out z96.out)
  have p101 := p92.grown g99 (by have := u102.out; omega)
  have p103 := p93.grown g99 (by have := u102.out; omega)
  have p104 := p94.grown g99 (by have := u102.out; omega)
  have p105 := q86.grown g99 (by have := u102.out; omega)
  have p106 := p95.grown g99 (by have := u102.out; omega)
  have z107 := Lib.hid g99.size
  clear G89 D91 p92 p93 p94 q86 p95
  have s108 := SegB.of o2
  clear o2
  clear g99
  replace p101 := Lib.hid p101
  replace p103 := Lib.hid p103
  replace p104 := Lib.hid p104
  replace p105 := Lib.hid p105
  replace p106 := Lib.hid p106
  replace s108 := Lib.hid s108
  replace G100 := Lib.hid G100
  replace d98 := Lib.hid d98
  go_wp2_with fail
  replace p101 := p101.out
  replace p103 := p103.out
  replace p104 := p104.out
  replace p105 := p105.out
  replace p106 := p106.out
  replace s108 := s108.out
  replace G100 := G100.out
  replace d98 := d98.out
  refine (loop_drawn n₀ B a len cap z _ _ d98).mono ?_
  rintro e w109 ⟨v3, X3, s5, hl3, rfl, o3, d110, g111⟩
  obtain ⟨a3, c3, rfl⟩ := o3.len
  have G112 := grown_trans G100 g111
  have u114 := Lib.hid (And.intro u102.out z107.out)
  have p113 := p101.grown g111 (by have := u114.out; omega)
  have p115 := p103.grown g111 (by have := u114.out; omega)
  have p116 := p104.grown g111 (by have := u114.out; omega)
  have p117 := p105.grown g111 (by have := u114.out; omega)
  have p118 := p106.grown g111 (by have := u114.out; omega)
  have p119 := s108.grown g111 (by have := u114.out; omega)
  have z120 := Lib.hid g111.size
  clear G100 d98 p101 p103 p104 p105 p106 s108
  have s121 := SegB.of o3
  clear o3
  have u130 := Lib.hid (And.intro u114.out z120.out)
  obtain ⟨g122, c123, w124, hr125, sg126, sp127, at128, lt129⟩ := bytes_append p119 (by have := u130.out; omega) (by have := u130.out; omega) (cx := c3) (s121.row) (by omega) (by omega) (by first | omega | (simp; done))
  replace at128 := Lib.hid at128
  replace lt129 := Lib.hid lt129
  replace hr125 := Lib.hid hr125
  have u132 := Lib.hid (And.intro u130.out (And.intro at128.out lt129.out))
  have G131 := grown_span G112 sp127 (by have := u132.out; omega)
  have D133 := d110.span sp127 (by have := u132.out; omega)
  have p134 := p113.span sp127 (by have := u132.out; omega)
  have p135 := p115.span sp127 (by have := u132.out; omega)
  have p136 := p116.span sp127 (by have := u132.out; omega)
  have p137 := p117.span sp127 (by have := u132.out; omega)
  have p138 := p118.span sp127 (by have := u132.out; omega)
  have p139 := s121.span sp127 (by have := u132.out; omega)
  have z140 := Lib.hid sp127.size
  clear G112 d110 p113 p115 p116 p117 p118 s121
  obtain ⟨X6, hX6⟩ : ∃ X, X2 ++ X3 = X := ⟨_, rfl⟩
  have hl6 : X6.length ≤ 128 := by rw [← hX6, List.length_append]; omega
  have hl60 : 0 < X6.length := by rw [← hX6, List.length_append]; omega
  rw [hX6] at hr125 sg126
  clear hX6 hl2 hl3
  clear g111 sp127 p119 p139
  replace p134 := Lib.hid p134
  replace p135 := Lib.hid p135
  replace p136 := Lib.hid p136
  replace p137 := Lib.hid p137
  replace p138 := Lib.hid p138
  replace sg126 := Lib.hid sg126
  replace G131 := Lib.hid G131
  replace D133 := Lib.hid D133
  go_wp2_with ((at_builtin; refine wpList_append_run hr125.out rfl rfl rfl rfl ?_))
  replace p134 := p134.out
  replace p135 := p135.out
  replace p136 := p136.out
  replace p137 := p137.out
  replace p138 := p138.out
  replace sg126 := sg126.out
  replace G131 := G131.out
  replace D133 := D133.out
  clear hr125
  refine (once_drawn n₀ B a len cap z _ 2 _ D133).mono ?_
  rintro e w141 ⟨rfl, d142, g143⟩
  have G144 := grown_trans G131 g143
  have u146 := Lib.hid (And.intro u132.out z140.out)
  have p145 := p134.grown g143 (by have := u146.out; omega)
  have p147 := p135.grown g143 (by have := u146.out; omega)
  have p148 := p136.grown g143 (by have := u146.out; omega)
  have p149 := p137.grown g143 (by have := u146.out; omega)
  have p150 := p138.grown g143 (by have := u146.out; omega)
  have p151 := sg126.grown g143 (by have := u146.out; omega)
  have z152 := Lib.hid g143.size
  clear G131 D133 p134 p135 p136 p137 p138 sg126
  obtain ⟨ql, hql, hql2⟩ : ∃ q : Nat, bits .and .u16 (Q : Int) 255 % 256 = (q : Int) ∧ q < 256 := ⟨(bits .and .u16 (Q : Int) 255 % 256).toNat, by omega, by omega⟩
  obtain ⟨qh, hqh, hqh2⟩ : ∃ q : Nat, (Q : Int) / 256 = (q : Int) ∧ q < 256 := ⟨Q / 256, by omega, by omega⟩
  have HQL := Lib.hid hql
  have HQH := Lib.hid hqh
  clear hql hqh
  cases hb : (belowV z len s5 2 == 0) with
  | true =>
    have ld153 : (Instr.loadAt 24 (.pointer (some ⟨w32.heap.size, 4, none⟩))).run Try.prog w141 = .ok (.int .u16 (Q : Int)) w141 := by
      have hc := p149.cell 4 (.int .u16 (Q : Int)) rfl
      simp [go_sem, hc]
    replace ld153 := Lib.hid ld153
    have ld154 : (Instr.loadAt 24 (.pointer (some ⟨w32.heap.size, 4, none⟩))).run Try.prog w141 = .ok (.int .u16 (Q : Int)) w141 := by
      have hc := p149.cell 4 (.int .u16 (Q : Int)) rfl
      simp [go_sem, hc]
    replace ld154 := Lib.hid ld154
    have a155 := alw w141 (.cells #[.int .u8 (76), .int .u8 (bits .and .u16 (Q : Int) 255 % 256), .int .u8 ((Q : Int) / 256)] 5)
    have z156 : Hid ((w141.alloc (.cells #[.int .u8 (76), .int .u8 (bits .and .u16 (Q : Int) 255 % 256), .int .u8 ((Q : Int) / 256)] 5)).heap.size = w141.heap.size + 1) := Lib.hid (World.size_alloc _ _)
    have rw157 : RowB (w141.alloc (.cells #[.int .u8 (76), .int .u8 (bits .and .u16 (Q : Int) 255 % 256), .int .u8 ((Q : Int) / 256)] 5)) (some ⟨w141.heap.size, 0, none⟩) [76, ql, qh] := by
      have h := rowNewA w141 [76, ql, qh] (by intro i hi; have hi' : i < 3 := hi; rcases i with _ | _ | _ | i <;> first | assumption | (show (76 : Nat) < 256; decide) | omega)
      simp only [List.map_cons, List.map_nil, u8V] at h
      rw [← HQL.out, ← HQH.out] at h
      exact h
    have G158 := grown_trans G144 (grown_of_below a155)
    have D159 := d142.below a155
    have p160 := p145.below a155
    have p161 := p147.below a155
    have p162 := p148.below a155
    have p163 := p149.below a155
    have p164 := p150.below a155
    have p165 := p151.below a155
    have z166 := Lib.hid a155.size
    clear G144 d142 p145 p147 p148 p149 p150 p151 g143
    have u175 := Lib.hid (And.intro u146.out (And.intro z152.out (And.intro z156.out z166.out)))
    obtain ⟨g167, c168, w169, hr170, sg171, sp172, at173, lt174⟩ := bytes_append p165 (by have := u175.out; omega) (by have := u175.out; omega) (cx := 3) (rw157) (by simp) (by omega) (by first | omega | (simp; done))
    replace at173 := Lib.hid at173
    replace lt174 := Lib.hid lt174
    replace hr170 := Lib.hid hr170
    have u177 := Lib.hid (And.intro u175.out (And.intro at173.out lt174.out))
    have G176 := grown_span G158 sp172 (by have := u177.out; omega)
    have D178 := D159.span sp172 (by have := u177.out; omega)
    have p179 := p160.span sp172 (by have := u177.out; omega)
    have p180 := p161.span sp172 (by have := u177.out; omega)
    have p181 := p162.span sp172 (by have := u177.out; omega)
    have p182 := p163.span sp172 (by have := u177.out; omega)
    have p183 := p164.span sp172 (by have := u177.out; omega)
    have z184 := Lib.hid sp172.size
    clear G158 D159 p160 p161 p162 p163 p164
    obtain ⟨X7, hX7⟩ : ∃ X, X6 ++ [76, ql, qh] = X := ⟨_, rfl⟩
    have hl7 : X7.length ≤ 131 := by rw [← hX7, List.length_append]; show X6.length + 3 ≤ _; omega
    rw [hX7] at hr170 sg171
    clear hX7 hl6 hl60
    have ld185 : (Instr.loadAt 30 (.pointer (some ⟨w14.heap.size, 0, none⟩))).run Try.prog w169 = .ok (.agg #[.slice a1 L.length c1]) w169 := load_part p181 0 #[.slice a1 L.length c1] (by kernel_rfl) (by kernel_rfl) (by kernel_rfl)
    replace ld185 := Lib.hid ld185
    have ld186 : (Instr.loadAt 24 (.pointer (some ⟨w32.heap.size, 4, none⟩))).run Try.prog w169 = .ok (.int .u16 (Q : Int)) w169 := by
      have hc := p182.cell 4 (.int .u16 (Q : Int)) rfl
      simp [go_sem, hc]
    replace ld186 := Lib.hid ld186
    clear a155 sp172 p165 rw157
    replace p179 := Lib.hid p179
    replace p180 := Lib.hid p180
    replace p181 := Lib.hid p181
    replace p182 := Lib.hid p182
    replace p183 := Lib.hid p183
    replace sg171 := Lib.hid sg171
    replace G176 := Lib.hid G176
    replace D178 := Lib.hid D178
    go_wp2_with (first | (with_reducible refine wpList_load_fit ld153.out ?_ ?_; focus (exact ⟨rfl, _, rfl, rfl⟩)) | (with_reducible refine wpList_load_fit ld154.out ?_ ?_; focus (exact ⟨rfl, _, rfl, rfl⟩)) | (at_builtin; refine wpList_append_run hr170.out rfl rfl rfl rfl ?_) | (with_reducible refine wpList_load_fit ld185.out ?_ ?_; focus (exact ⟨rfl, _, rfl, rfl⟩)) | (with_reducible refine wpList_load_fit ld186.out ?_ ?_; focus (exact ⟨rfl, _, rfl, rfl⟩)))
    replace p179 := p179.out
    replace p180 := p180.out
    replace p181 := p181.out
    replace p182 := p182.out
    replace p183 := p183.out
    replace sg171 := sg171.out
    replace G176 := G176.out
    replace D178 := D178.out
    clear ld153 ld154 hr170 ld185 ld186
    refine (specFill_any a1 c1 Q L (some ⟨g167, 0, none⟩) c168 X7 hQ2 _ p183.row sg171.row (by unfold maxLen; omega)).mono ?_
    rintro e w191 ⟨v188, rfl, o187, d192⟩
    obtain ⟨a189, c190, rfl⟩ := o187.len
    have G193 := grown_trans G176 (grown_of_below d192)
    have D194 := D178.below d192
    have p195 := p179.below d192
    have p196 := p180.below d192
    have p197 := p181.below d192
    have p198 := p182.below d192
    have p199 := p183.below d192
    have p200 := sg171.below d192
    have z201 := Lib.hid d192.size
    clear G176 D178 p179 p180 p181 p182 p183 sg171
    obtain ⟨M202, hM203, hM203l⟩ : ∃ M, fillL L Q X7 = M ∧ M.length ≤ 8192 := ⟨_, rfl, fillL_le8 hL.out⟩
    rw [hM203] at o187 ⊢
    clear hM203
    have s204 := SegB.of o187
    clear o187
    obtain ⟨w205, hs206, q207, sp208, z209⟩ := store_part (ty := 30) (cs' := #[.slice a189 M202.length c190]) p197 0 #[.slice a189 M202.length c190] (by kernel_rfl) (Nat.le_of_ble_eq_true (by kernel_rfl)) (by kernel_rfl) (by kernel_rfl)
    replace z209 := Lib.hid z209
    replace hs206 := Lib.hid hs206
    have u211 := Lib.hid (And.intro u177.out (And.intro z184.out (And.intro z201.out z209.out)))
    have G210 := grown_span G193 sp208 (by have := u211.out; omega)
    have D212 := D194.span sp208 (by have := u211.out; omega)
    have p213 := p195.span sp208 (by have := u211.out; omega)
    have p214 := p196.span sp208 (by have := u211.out; omega)
    have p215 := p198.span sp208 (by have := u211.out; omega)
    have p216 := s204.span sp208 (by have := u211.out; omega)
    have z217 := Lib.hid sp208.size
    clear G193 D194 p195 p196 p198 s204
    have ld218 : (Instr.loadAt 30 (.pointer (some ⟨w14.heap.size, 0, none⟩))).run Try.prog w205 = .ok (.agg #[.slice a189 M202.length c190]) w205 := load_part q207 0 #[.slice a189 M202.length c190] (by kernel_rfl) (by kernel_rfl) (by kernel_rfl)
    replace ld218 := Lib.hid ld218
    have ld219 : (Instr.loadAt 24 (.pointer (some ⟨w32.heap.size, 4, none⟩))).run Try.prog w205 = .ok (.int .u16 (Q : Int)) w205 := by
      have hc := p215.cell 4 (.int .u16 (Q : Int)) rfl
      simp [go_sem, hc]
    replace ld219 := Lib.hid ld219
    have ld220 : (Instr.loadAt 24 (.pointer (some ⟨w32.heap.size, 4, none⟩))).run Try.prog w205 = .ok (.int .u16 (Q : Int)) w205 := by
      have hc := p215.cell 4 (.int .u16 (Q : Int)) rfl
      simp [go_sem, hc]
    replace ld220 := Lib.hid ld220
    have ld221 : (Instr.loadAt 24 (.pointer (some ⟨w32.heap.size, 4, none⟩))).run Try.prog w205 = .ok (.int .u16 (Q : Int)) w205 := by
      have hc := p215.cell 4 (.int .u16 (Q : Int)) rfl
      simp [go_sem, hc]
    replace ld221 := Lib.hid ld221
    have ld222 : (Instr.loadAt 24 (.pointer (some ⟨w32.heap.size, 4, none⟩))).run Try.prog w205 = .ok (.int .u16 (Q : Int)) w205 := by
      have hc := p215.cell 4 (.int .u16 (Q : Int)) rfl
      simp [go_sem, hc]
    replace ld222 := Lib.hid ld222
    have ld223 : (Instr.loadAt 24 (.pointer (some ⟨w32.heap.size, 4, none⟩))).run Try.prog w205 = .ok (.int .u16 (Q : Int)) w205 := by
      have hc := p215.cell 4 (.int .u16 (Q : Int)) rfl
      simp [go_sem, hc]
    replace ld223 := Lib.hid ld223
    have ld224 : (Instr.loadAt 24 (.pointer (some ⟨w32.heap.size, 4, none⟩))).run Try.prog w205 = .ok (.int .u16 (Q : Int)) w205 := by
      have hc := p215.cell 4 (.int .u16 (Q : Int)) rfl
      simp [go_sem, hc]
    replace ld224 := Lib.hid ld224
    have a225 := alw w205 (.cells #[.int .u8 (bits .and .u16 (Q : Int) 255 % 256), .int .u8 ((Q : Int) / 256), .int .u8 (bits .and .u16 (Q : Int) 255 % 256), .int .u8 ((Q : Int) / 256), .int .u8 (bits .and .u16 (Q : Int) 255 % 256), .int .u8 ((Q : Int) / 256)] 5)
    have z226 : Hid ((w205.alloc (.cells #[.int .u8 (bits .and .u16 (Q : Int) 255 % 256), .int .u8 ((Q : Int) / 256), .int .u8 (bits .and .u16 (Q : Int) 255 % 256), .int .u8 ((Q : Int) / 256), .int .u8 (bits .and .u16 (Q : Int) 255 % 256), .int .u8 ((Q : Int) / 256)] 5)).heap.size = w205.heap.size + 1) := Lib.hid (World.size_alloc _ _)
    have rw227 : RowB (w205.alloc (.cells #[.int .u8 (bits .and .u16 (Q : Int) 255 % 256), .int .u8 ((Q : Int) / 256), .int .u8 (bits .and .u16 (Q : Int) 255 % 256), .int .u8 ((Q : Int) / 256), .int .u8 (bits .and .u16 (Q : Int) 255 % 256), .int .u8 ((Q : Int) / 256)] 5)) (some ⟨w205.heap.size, 0, none⟩) [ql, qh, ql, qh, ql, qh] := by
      have h := rowNewA w205 [ql, qh, ql, qh, ql, qh] (by intro i hi; have hi' : i < 6 := hi; rcases i with _ | _ | _ | _ | _ | _ | i <;> first | assumption | (show (76 : Nat) < 256; decide) | omega)
      simp only [List.map_cons, List.map_nil, u8V] at h
      rw [← HQL.out, ← HQH.out] at h
      exact h
    have G228 := grown_trans G210 (grown_of_below a225)
    have D229 := D212.below a225
    have p230 := p213.below a225
    have p231 := p214.below a225
    have p232 := p215.below a225
    have p233 := q207.below a225
    have p234 := p216.below a225
    have z235 := Lib.hid a225.size
    clear G210 D212 p213 p214 p215 q207 p216 d192 p199 p200 p197 sp208
    clear a225
    replace p230 := Lib.hid p230
    replace p231 := Lib.hid p231
    replace p232 := Lib.hid p232
    replace p233 := Lib.hid p233
    replace p234 := Lib.hid p234
    replace rw227 := Lib.hid rw227
    replace G228 := Lib.hid G228
    replace D229 := Lib.hid D229
    go_wp2_with (first | (with_reducible refine wpList_store_fit hs206.out ?_ ?_; focus (exact ⟨rfl, rfl, _, _, rfl, rfl, rfl⟩)) | (with_reducible refine wpList_load_fit ld218.out ?_ ?_; focus (exact ⟨rfl, _, rfl, rfl⟩)) | (with_reducible refine wpList_load_fit ld219.out ?_ ?_; focus (exact ⟨rfl, _, rfl, rfl⟩)) | (with_reducible refine wpList_load_fit ld220.out ?_ ?_; focus (exact ⟨rfl, _, rfl, rfl⟩)) | (with_reducible refine wpList_load_fit ld221.out ?_ ?_; focus (exact ⟨rfl, _, rfl, rfl⟩)) | (with_reducible refine wpList_load_fit ld222.out ?_ ?_; focus (exact ⟨rfl, _, rfl, rfl⟩)) | (with_reducible refine wpList_load_fit ld223.out ?_ ?_; focus (exact ⟨rfl, _, rfl, rfl⟩)) | (with_reducible refine wpList_load_fit ld224.out ?_ ?_; focus (exact ⟨rfl, _, rfl, rfl⟩)))
    replace p230 := p230.out
    replace p231 := p231.out
    replace p232 := p232.out
    replace p233 := p233.out
    replace p234 := p234.out
    replace rw227 := rw227.out
    replace G228 := G228.out
    replace D229 := D229.out
    clear hs206 ld218 ld219 ld220 ld221 ld222 ld223 ld224
    refine (specFill_any a189 c190 65530 M202 (some ⟨w205.heap.size, 0, none⟩) 6 [ql, qh, ql, qh, ql, qh] (by decide) _ p234.row rw227 (by unfold maxLen; simp)).mono ?_
    rintro e w240 ⟨v237, rfl, o236, d241⟩
    replace d241 : Below (w205.alloc (.cells #[.int .u8 (bits .and .u16 (Q : Int) 255 % 256), .int .u8 ((Q : Int) / 256), .int .u8 (bits .and .u16 (Q : Int) 255 % 256), .int .u8 ((Q : Int) / 256), .int .u8 (bits .and .u16 (Q : Int) 255 % 256), .int .u8 ((Q : Int) / 256)] 5)).heap.size (w205.alloc (.cells #[.int .u8 (bits .and .u16 (Q : Int) 255 % 256), .int .u8 ((Q : Int) / 256), .int .u8 (bits .and .u16 (Q : Int) 255 % 256), .int .u8 ((Q : Int) / 256), .int .u8 (bits .and .u16 (Q : Int) 255 % 256), .int .u8 ((Q : Int) / 256)] 5)) w240 := d241
    obtain ⟨a238, c239, rfl⟩ := o236.len
    have G242 := grown_trans G228 (grown_of_below d241)
    have D243 := D229.below d241
    have p244 := p230.below d241
    have p245 := p231.below d241
    have p246 := p232.below d241
    have p247 := p233.below d241
    have p248 := p234.below d241
    have p249 := rw227.below d241
    have z250 := Lib.hid d241.size
    clear G228 D229 p230 p231 p232 p233 p234 rw227
    obtain ⟨M251, hM252, hM252l⟩ : ∃ M, fillL M202 65530 [ql, qh, ql, qh, ql, qh] = M ∧ M.length ≤ 8192 := ⟨_, rfl, fillL_le8 hM203l⟩
    rw [hM252] at o236 ⊢
    clear hM252
    have s253 := SegB.of o236
    clear o236
    obtain ⟨w254, hs255, q256, sp257, z258⟩ := store_part (ty := 30) (cs' := #[.slice a238 M251.length c239]) p247 0 #[.slice a238 M251.length c239] (by kernel_rfl) (Nat.le_of_ble_eq_true (by kernel_rfl)) (by kernel_rfl) (by kernel_rfl)
    replace z258 := Lib.hid z258
    replace hs255 := Lib.hid hs255
    have u260 := Lib.hid (And.intro u211.out (And.intro z217.out (And.intro z226.out (And.intro z235.out (And.intro z250.out z258.out)))))
    have G259 := grown_span G242 sp257 (by have := u260.out; omega)
    have D261 := D243.span sp257 (by have := u260.out; omega)
    have p262 := p244.span sp257 (by have := u260.out; omega)
    have p263 := p245.span sp257 (by have := u260.out; omega)
    have p264 := p246.span sp257 (by have := u260.out; omega)
    have p265 := s253.span sp257 (by have := u260.out; omega)
    have z266 := Lib.hid sp257.size
    clear G242 D243 p244 p245 p246 s253
    clear d241 p248 p249 p247 sp257
    replace p262 := Lib.hid p262
    replace p263 := Lib.hid p263
    replace p264 := Lib.hid p264
    replace q256 := Lib.hid q256
    replace p265 := Lib.hid p265
    replace G259 := Lib.hid G259
    replace D261 := Lib.hid D261
    go_wp2_with ((with_reducible refine wpList_store_fit hs255.out ?_ ?_; focus (exact ⟨rfl, rfl, _, _, rfl, rfl, rfl⟩)))
    replace p262 := p262.out
    replace p263 := p263.out
    replace p264 := p264.out
    replace q256 := q256.out
    replace p265 := p265.out
    replace G259 := G259.out
    replace D261 := D261.out
    clear hs255
    have u267 := Lib.hid (And.intro u260.out z266.out)
    go_cut [71] from 70 to 70 (fun v W => BoxN W w.heap.size 28 (cpuCells ⟨c.A, c.X, c.Y, c.S, Q, c.N, c.V, c.D, c.I, c.Z, c.C⟩) ∧ BoxN W (w.heap.size + 1) 30 #[.slice a238 M251.length c239] ∧ Span w.heap.size (w.heap.size + 1 + 1) w254 W)
    case first =>
      rename_i J K' hJ hK
      refine machReg ⟨c.A, c.X, c.Y, c.S, Q, c.N, c.V, c.D, c.I, c.Z, c.C⟩ a238 M251.length c239 w32.heap.size w14.heap.size w.heap.size w254 p264 q256 p262 rfl (World.size_alloc w _ ▸ p263) rfl (by have := u267.out; omega) (by have := u267.out; omega) _ rfl rfl rfl rfl rfl _ ?_ _ (by kernel_rfl) _
      intro a' W hf ht
      exact hK _ _ (Met.intro (hJ _ _ ⟨a'.eval (.tmp 70), a'.eval (.tmp 71), ht, hf.eq.trans (by kernel_rfl)⟩))
    obtain ⟨yW, xW, sp⟩ := hcut
    have G268 := grown_span G259 sp (by have := u267.out; omega)
    have D269 := D261.span sp (by have := u267.out; omega)
    have p270 := p265.span sp (by have := u267.out; omega)
    have z271 := Lib.hid sp.size
    clear G259 D261 p265 p262 p263 p264 q256
    obtain ⟨h0, h1, h2, h3, h4, h5, h6, h7, h8, h9, h10, f1⟩ := eleven yW
    have x0c := xW.cell 0 _ rfl
    have HQ := Lib.hid (And.intro p270 (And.intro D269 G268))
    clear yW xW sp p270 D269 G268
    go_wp2
    refine bodyPost_ret (v := .tuple #[cpuV ⟨c.A, c.X, c.Y, c.S, Q, c.N, c.V, c.D, c.I, c.Z, c.C⟩, ramV (.slice a238 M251.length c239)]) (by simp [results, Try.results20, go_sem, h0, h1, h2, h3, h4, h5, h6, h7, h8, h9, h10, x0c]) rfl ?_
    obtain ⟨oF, hdF, gF⟩ := HQ.out
    have u272 := Lib.hid (And.intro u267.out z271.out)
    exact ⟨⟨c.A, c.X, c.Y, c.S, Q, c.N, c.V, c.D, c.I, c.Z, c.C⟩, _, M251, _, ⟨hc.out.1, hc.out.2.1, hc.out.2.2.1, hc.out.2.2.2.1, hQ2⟩, hM252l, rfl, OwnB.base oF.1 (by have := u272.out; omega), hdF, gF⟩
  | false =>
    have ld153 : (Instr.loadAt 30 (.pointer (some ⟨w14.heap.size, 0, none⟩))).run Try.prog w141 = .ok (.agg #[.slice a1 L.length c1]) w141 := load_part p148 0 #[.slice a1 L.length c1] (by kernel_rfl) (by kernel_rfl) (by kernel_rfl)
    replace ld153 := Lib.hid ld153
    have ld154 : (Instr.loadAt 24 (.pointer (some ⟨w32.heap.size, 4, none⟩))).run Try.prog w141 = .ok (.int .u16 (Q : Int)) w141 := by
      have hc := p149.cell 4 (.int .u16 (Q : Int)) rfl
      simp [go_sem, hc]
    replace ld154 := Lib.hid ld154
    clear g143
    replace p145 := Lib.hid p145
    replace p147 := Lib.hid p147
    replace p148 := Lib.hid p148
    replace p149 := Lib.hid p149
    replace p150 := Lib.hid p150
    replace p151 := Lib.hid p151
    replace G144 := Lib.hid G144
    replace d142 := Lib.hid d142
    go_wp2_with (first | (with_reducible refine wpList_load_fit ld153.out ?_ ?_; focus (exact ⟨rfl, _, rfl, rfl⟩)) | (with_reducible refine wpList_load_fit ld154.out ?_ ?_; focus (exact ⟨rfl, _, rfl, rfl⟩)))
    replace p145 := p145.out
    replace p147 := p147.out
    replace p148 := p148.out
    replace p149 := p149.out
    replace p150 := p150.out
    replace p151 := p151.out
    replace G144 := G144.out
    replace d142 := d142.out
    clear ld153 ld154
    refine (specFill_any a1 c1 Q L (some ⟨g122, 0, none⟩) c123 X6 hQ2 _ p150.row p151.row (by unfold maxLen; omega)).mono ?_
    rintro e w159 ⟨v156, rfl, o155, d160⟩
    obtain ⟨a157, c158, rfl⟩ := o155.len
    have G161 := grown_trans G144 (grown_of_below d160)
    have D162 := d142.below d160
    have p163 := p145.below d160
    have p164 := p147.below d160
    have p165 := p148.below d160
    have p166 := p149.below d160
    have p167 := p150.below d160
    have p168 := p151.below d160
    have z169 := Lib.hid d160.size
    clear G144 d142 p145 p147 p148 p149 p150 p151
    obtain ⟨M170, hM171, hM171l⟩ : ∃ M, fillL L Q X6 = M ∧ M.length ≤ 8192 := ⟨_, rfl, fillL_le8 hL.out⟩
    rw [hM171] at o155 ⊢
    clear hM171
    have s172 := SegB.of o155
    clear o155
    obtain ⟨w173, hs174, q175, sp176, z177⟩ := store_part (ty := 30) (cs' := #[.slice a157 M170.length c158]) p165 0 #[.slice a157 M170.length c158] (by kernel_rfl) (Nat.le_of_ble_eq_true (by kernel_rfl)) (by kernel_rfl) (by kernel_rfl)
    replace z177 := Lib.hid z177
    replace hs174 := Lib.hid hs174
    have u179 := Lib.hid (And.intro u146.out (And.intro z152.out (And.intro z169.out z177.out)))
    have G178 := grown_span G161 sp176 (by have := u179.out; omega)
    have D180 := D162.span sp176 (by have := u179.out; omega)
    have p181 := p163.span sp176 (by have := u179.out; omega)
    have p182 := p164.span sp176 (by have := u179.out; omega)
    have p183 := p166.span sp176 (by have := u179.out; omega)
    have p184 := s172.span sp176 (by have := u179.out; omega)
    have z185 := Lib.hid sp176.size
    clear G161 D162 p163 p164 p166 s172
    have ld186 : (Instr.loadAt 30 (.pointer (some ⟨w14.heap.size, 0, none⟩))).run Try.prog w173 = .ok (.agg #[.slice a157 M170.length c158]) w173 := load_part q175 0 #[.slice a157 M170.length c158] (by kernel_rfl) (by kernel_rfl) (by kernel_rfl)
    replace ld186 := Lib.hid ld186
    have ld187 : (Instr.loadAt 24 (.pointer (some ⟨w32.heap.size, 4, none⟩))).run Try.prog w173 = .ok (.int .u16 (Q : Int)) w173 := by
      have hc := p183.cell 4 (.int .u16 (Q : Int)) rfl
      simp [go_sem, hc]
    replace ld187 := Lib.hid ld187
    have ld188 : (Instr.loadAt 24 (.pointer (some ⟨w32.heap.size, 4, none⟩))).run Try.prog w173 = .ok (.int .u16 (Q : Int)) w173 := by
      have hc := p183.cell 4 (.int .u16 (Q : Int)) rfl
      simp [go_sem, hc]
    replace ld188 := Lib.hid ld188
    have ld189 : (Instr.loadAt 24 (.pointer (some ⟨w32.heap.size, 4, none⟩))).run Try.prog w173 = .ok (.int .u16 (Q : Int)) w173 := by
      have hc := p183.cell 4 (.int .u16 (Q : Int)) rfl
      simp [go_sem, hc]
    replace ld189 := Lib.hid ld189
    have ld190 : (Instr.loadAt 24 (.pointer (some ⟨w32.heap.size, 4, none⟩))).run Try.prog w173 = .ok (.int .u16 (Q : Int)) w173 := by
      have hc := p183.cell 4 (.int .u16 (Q : Int)) rfl
      simp [go_sem, hc]
    replace ld190 := Lib.hid ld190
    have ld191 : (Instr.loadAt 24 (.pointer (some ⟨w32.heap.size, 4, none⟩))).run Try.prog w173 = .ok (.int .u16 (Q : Int)) w173 := by
      have hc := p183.cell 4 (.int .u16 (Q : Int)) rfl
      simp [go_sem, hc]
    replace ld191 := Lib.hid ld191
    have ld192 : (Instr.loadAt 24 (.pointer (some ⟨w32.heap.size, 4, none⟩))).run Try.prog w173 = .ok (.int .u16 (Q : Int)) w173 := by
      have hc := p183.cell 4 (.int .u16 (Q : Int)) rfl
      simp [go_sem, hc]
    replace ld192 := Lib.hid ld192
    have a193 := alw w173 (.cells #[.int .u8 (bits .and .u16 (Q : Int) 255 % 256), .int .u8 ((Q : Int) / 256), .int .u8 (bits .and .u16 (Q : Int) 255 % 256), .int .u8 ((Q : Int) / 256), .int .u8 (bits .and .u16 (Q : Int) 255 % 256), .int .u8 ((Q : Int) / 256)] 5)
    have z194 : Hid ((w173.alloc (.cells #[.int .u8 (bits .and .u16 (Q : Int) 255 % 256), .int .u8 ((Q : Int) / 256), .int .u8 (bits .and .u16 (Q : Int) 255 % 256), .int .u8 ((Q : Int) / 256), .int .u8 (bits .and .u16 (Q : Int) 255 % 256), .int .u8 ((Q : Int) / 256)] 5)).heap.size = w173.heap.size + 1) := Lib.hid (World.size_alloc _ _)
    have rw195 : RowB (w173.alloc (.cells #[.int .u8 (bits .and .u16 (Q : Int) 255 % 256), .int .u8 ((Q : Int) / 256), .int .u8 (bits .and .u16 (Q : Int) 255 % 256), .int .u8 ((Q : Int) / 256), .int .u8 (bits .and .u16 (Q : Int) 255 % 256), .int .u8 ((Q : Int) / 256)] 5)) (some ⟨w173.heap.size, 0, none⟩) [ql, qh, ql, qh, ql, qh] := by
      have h := rowNewA w173 [ql, qh, ql, qh, ql, qh] (by intro i hi; have hi' : i < 6 := hi; rcases i with _ | _ | _ | _ | _ | _ | i <;> first | assumption | (show (76 : Nat) < 256; decide) | omega)
      simp only [List.map_cons, List.map_nil, u8V] at h
      rw [← HQL.out, ← HQH.out] at h
      exact h
    have G196 := grown_trans G178 (grown_of_below a193)
    have D197 := D180.below a193
    have p198 := p181.below a193
    have p199 := p182.below a193
    have p200 := p183.below a193
    have p201 := q175.below a193
    have p202 := p184.below a193
    have z203 := Lib.hid a193.size
    clear G178 D180 p181 p182 p183 q175 p184 d160 p167 p168 p165 sp176
    clear a193
    replace p198 := Lib.hid p198
    replace p199 := Lib.hid p199
    replace p200 := Lib.hid p200
    replace p201 := Lib.hid p201
    replace p202 := Lib.hid p202
    replace rw195 := Lib.hid rw195
    replace G196 := Lib.hid G196
    replace D197 := Lib.hid D197
    go_wp2_with (first | (with_reducible refine wpList_store_fit hs174.out ?_ ?_; focus (exact ⟨rfl, rfl, _, _, rfl, rfl, rfl⟩)) | (with_reducible refine wpList_load_fit ld186.out ?_ ?_; focus (exact ⟨rfl, _, rfl, rfl⟩)) | (with_reducible refine wpList_load_fit ld187.out ?_ ?_; focus (exact ⟨rfl, _, rfl, rfl⟩)) | (with_reducible refine wpList_load_fit ld188.out ?_ ?_; focus (exact ⟨rfl, _, rfl, rfl⟩)) | (with_reducible refine wpList_load_fit ld189.out ?_ ?_; focus (exact ⟨rfl, _, rfl, rfl⟩)) | (with_reducible refine wpList_load_fit ld190.out ?_ ?_; focus (exact ⟨rfl, _, rfl, rfl⟩)) | (with_reducible refine wpList_load_fit ld191.out ?_ ?_; focus (exact ⟨rfl, _, rfl, rfl⟩)) | (with_reducible refine wpList_load_fit ld192.out ?_ ?_; focus (exact ⟨rfl, _, rfl, rfl⟩)))
    replace p198 := p198.out
    replace p199 := p199.out
    replace p200 := p200.out
    replace p201 := p201.out
    replace p202 := p202.out
    replace rw195 := rw195.out
    replace G196 := G196.out
    replace D197 := D197.out
    clear hs174 ld186 ld187 ld188 ld189 ld190 ld191 ld192
    refine (specFill_any a157 c158 65530 M170 (some ⟨w173.heap.size, 0, none⟩) 6 [ql, qh, ql, qh, ql, qh] (by decide) _ p202.row rw195 (by unfold maxLen; simp)).mono ?_
    rintro e w208 ⟨v205, rfl, o204, d209⟩
    replace d209 : Below (w173.alloc (.cells #[.int .u8 (bits .and .u16 (Q : Int) 255 % 256), .int .u8 ((Q : Int) / 256), .int .u8 (bits .and .u16 (Q : Int) 255 % 256), .int .u8 ((Q : Int) / 256), .int .u8 (bits .and .u16 (Q : Int) 255 % 256), .int .u8 ((Q : Int) / 256)] 5)).heap.size (w173.alloc (.cells #[.int .u8 (bits .and .u16 (Q : Int) 255 % 256), .int .u8 ((Q : Int) / 256), .int .u8 (bits .and .u16 (Q : Int) 255 % 256), .int .u8 ((Q : Int) / 256), .int .u8 (bits .and .u16 (Q : Int) 255 % 256), .int .u8 ((Q : Int) / 256)] 5)) w208 := d209
    obtain ⟨a206, c207, rfl⟩ := o204.len
    have G210 := grown_trans G196 (grown_of_below d209)
    have D211 := D197.below d209
    have p212 := p198.below d209
    have p213 := p199.below d209
    have p214 := p200.below d209
    have p215 := p201.below d209
    have p216 := p202.below d209
    have p217 := rw195.below d209
    have z218 := Lib.hid d209.size
    clear G196 D197 p198 p199 p200 p201 p202 rw195
    obtain ⟨M219, hM220, hM220l⟩ : ∃ M, fillL M170 65530 [ql, qh, ql, qh, ql, qh] = M ∧ M.length ≤ 8192 := ⟨_, rfl, fillL_le8 hM171l⟩
    rw [hM220] at o204 ⊢
    clear hM220
    have s221 := SegB.of o204
    clear o204
    obtain ⟨w222, hs223, q224, sp225, z226⟩ := store_part (ty := 30) (cs' := #[.slice a206 M219.length c207]) p215 0 #[.slice a206 M219.length c207] (by kernel_rfl) (Nat.le_of_ble_eq_true (by kernel_rfl)) (by kernel_rfl) (by kernel_rfl)
    replace z226 := Lib.hid z226
    replace hs223 := Lib.hid hs223
    have u228 := Lib.hid (And.intro u179.out (And.intro z185.out (And.intro z194.out (And.intro z203.out (And.intro z218.out z226.out)))))
    have G227 := grown_span G210 sp225 (by have := u228.out; omega)
    have D229 := D211.span sp225 (by have := u228.out; omega)
    have p230 := p212.span sp225 (by have := u228.out; omega)
    have p231 := p213.span sp225 (by have := u228.out; omega)
    have p232 := p214.span sp225 (by have := u228.out; omega)
    have p233 := s221.span sp225 (by have := u228.out; omega)
    have z234 := Lib.hid sp225.size
    clear G210 D211 p212 p213 p214 s221
    clear d209 p216 p217 p215 sp225
    replace p230 := Lib.hid p230
    replace p231 := Lib.hid p231
    replace p232 := Lib.hid p232
    replace q224 := Lib.hid q224
    replace p233 := Lib.hid p233
    replace G227 := Lib.hid G227
    replace D229 := Lib.hid D229
    go_wp2_with ((with_reducible refine wpList_store_fit hs223.out ?_ ?_; focus (exact ⟨rfl, rfl, _, _, rfl, rfl, rfl⟩)))
    replace p230 := p230.out
    replace p231 := p231.out
    replace p232 := p232.out
    replace q224 := q224.out
    replace p233 := p233.out
    replace G227 := G227.out
    replace D229 := D229.out
    clear hs223
    have u235 := Lib.hid (And.intro u228.out z234.out)
    go_cut [71] from 70 to 70 (fun v W => BoxN W w.heap.size 28 (cpuCells ⟨c.A, c.X, c.Y, c.S, Q, c.N, c.V, c.D, c.I, c.Z, c.C⟩) ∧ BoxN W (w.heap.size + 1) 30 #[.slice a206 M219.length c207] ∧ Span w.heap.size (w.heap.size + 1 + 1) w222 W)
    case first =>
      rename_i J K' hJ hK
      refine machReg ⟨c.A, c.X, c.Y, c.S, Q, c.N, c.V, c.D, c.I, c.Z, c.C⟩ a206 M219.length c207 w32.heap.size w14.heap.size w.heap.size w222 p232 q224 p230 rfl (World.size_alloc w _ ▸ p231) rfl (by have := u235.out; omega) (by have := u235.out; omega) _ rfl rfl rfl rfl rfl _ ?_ _ (by kernel_rfl) _
      intro a' W hf ht
      exact hK _ _ (Met.intro (hJ _ _ ⟨a'.eval (.tmp 70), a'.eval (.tmp 71), ht, hf.eq.trans (by kernel_rfl)⟩))
    obtain ⟨yW, xW, sp⟩ := hcut
    have G236 := grown_span G227 sp (by have := u235.out; omega)
    have D237 := D229.span sp (by have := u235.out; omega)
    have p238 := p233.span sp (by have := u235.out; omega)
    have z239 := Lib.hid sp.size
    clear G227 D229 p233 p230 p231 p232 q224
    obtain ⟨h0, h1, h2, h3, h4, h5, h6, h7, h8, h9, h10, f1⟩ := eleven yW
    have x0c := xW.cell 0 _ rfl
    have HQ := Lib.hid (And.intro p238 (And.intro D237 G236))
    clear yW xW sp p238 D237 G236
    go_wp2
    refine bodyPost_ret (v := .tuple #[cpuV ⟨c.A, c.X, c.Y, c.S, Q, c.N, c.V, c.D, c.I, c.Z, c.C⟩, ramV (.slice a206 M219.length c207)]) (by simp [results, Try.results20, go_sem, h0, h1, h2, h3, h4, h5, h6, h7, h8, h9, h10, x0c]) rfl ?_
    obtain ⟨oF, hdF, gF⟩ := HQ.out
    have u240 := Lib.hid (And.intro u235.out z239.out)
    exact ⟨⟨c.A, c.X, c.Y, c.S, Q, c.N, c.V, c.D, c.I, c.Z, c.C⟩, _, M219, _, ⟨hc.out.1, hc.out.2.1, hc.out.2.2.1, hc.out.2.2.2.1, hQ2⟩, hM220l, rfl, OwnB.base oF.1 (by have := u240.out; omega), hdF, gF⟩

end Go.Proofs.Ytckfdbjjjgfbfaa
