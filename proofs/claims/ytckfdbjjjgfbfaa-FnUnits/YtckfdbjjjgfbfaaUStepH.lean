/-
  Contracts over the program: the model's operations on a place (l06Data).
-/
import Derived.Test.YtckfdbjjjgfbfaaUStepG
import Derived.Test.YtckfdbjjjgfbfaaUOpC
import Derived.StillTailTactics
import Derived.Deep.Cut
import Derived.Deep.RegionWith
namespace Go.Proofs.Ytckfdbjjjgfbfaa
set_option linter.unusedVariables false
set_option linter.unusedSimpArgs false
open Go.RowKit

theorem name_at (code : Nat) (h : code < 256) {i : Nat} (hi : opId code = i) (w : World) :
    Calls Try.prog 71 #[.int .u8 code] w fun e w' => e = .returned (.string (opTx i)) ∧ Below w.heap.size w w' := by
  subst hi
  exact specName_any code h w

theorem mode_at (code : Nat) (h : code < 256) {m : Int} (hm : opMode code = m) (w : World) :
    Calls Try.prog 73 #[.int .u8 code] w fun e w' => e = .returned (.int .i64 m) ∧ Below w.heap.size w w' := by
  subst hm
  exact specMode_any code h w

theorem kind_at (code : Nat) (h : code < 256) {m : Int} (hm : opKind code = m) (w : World) :
    Calls Try.prog 67 #[.int .u8 code] w fun e w' => e = .returned (.int .i64 m) ∧ Below w.heap.size w w' := by
  subst hm
  exact specKind_any code h w

theorem size_at (code : Nat) (h : code < 256) {s : Nat} (hs : opSize code = (s : Int)) (w : World) :
    Calls Try.prog 68 #[.int .u8 code] w fun e w' => e = .returned (.int .i64 (s : Nat)) ∧ Below w.heap.size w w' := by
  rw [← hs]
  exact specSize_any code h w

theorem useL_PC (c : CpuN) (l : List UInt8) (m : Nat) : (useL c l m).PC = c.PC := by
  simp only [useL, CpuN.nz, apply_ite CpuN.PC, ite_self]

theorem use_at (i : Nat) (hi : i ∈ [1, 2, 3, 4, 6, 7, 8, 14, 24, 25, 26, 31]) (c : CpuN) (hc : c.ok) (m : Nat) (hm : m < 256) {u : CpuN} (hu : useL c (opTx i).toList m = u) (w : World) :
    Calls Try.prog 87 #[cpuV c, .string (opTx i), .int .u8 m] w fun e w' => e = .returned (cpuV u) ∧ Below w.heap.size w w' := by
  subst hu
  exact use_any i hi c hc m hm w

theorem reg_at (i : Nat) (hi : i ∈ [5, 13, 23]) (c : CpuN) {x : Nat} (hx : storeL c (opTx i).toList = x) (w : World) :
    Calls Try.prog 89 #[cpuV c, .string (opTx i)] w fun e w' => e = .returned (.int .u8 (x : Nat)) ∧ Below w.heap.size w w' := by
  subst hx
  exact reg_any i hi c w

theorem chg_at (i : Nat) (hi : i ∈ [9, 10, 11, 12, 15, 16]) (c : CpuN) (m : Nat) (hm : m < 256) {x : Nat} {n z cc : Bool} (hx : chgB (opTx i).toList m c.C = x) (hn : (c.chg (opTx i).toList m).N = n) (hz : (c.chg (opTx i).toList m).Z = z) (hcc : (c.chg (opTx i).toList m).C = cc) (w : World) :
    Calls Try.prog 82 #[.string (opTx i), .int .u8 m, .agg #[.bool c.N, .bool c.V, .bool c.D, .bool c.I, .bool c.Z, .bool c.C]] w fun e w' => e = .returned (.tuple #[.int .u8 (x : Nat), .agg #[.bool n, .bool c.V, .bool c.D, .bool c.I, .bool z, .bool cc]]) ∧ Below w.heap.size w w' := by
  subst hx
  subst hn
  subst hz
  subst hcc
  exact chg_any i hi c m hm w

theorem chgB_lt (l : List UInt8) (m : Nat) (hm : m < 256) (cC : Bool) : chgB l m cC < 256 := by
  have h1 := mvR_bd (m : Int) true false (by omega) (by omega)
  have h2 := mvR_bd (m : Int) false false (by omega) (by omega)
  have h3 := mvR_bd (m : Int) true cC (by omega) (by omega)
  have h4 := mvR_bd (m : Int) false cC (by omega) (by omega)
  unfold chgB
  repeat' split
  all_goals omega

theorem storeL_lt (c : CpuN) (hc : c.ok) (l : List UInt8) : storeL c l < 256 := by
  obtain ⟨h1, h2, h3, h4, h5⟩ := hc
  unfold storeL
  repeat' split
  all_goals omega

theorem place_at (F : Nat → Prop) (B : Nat) (b : BusN) (c : CpuN) (hc : c.ok) (m k : Int) (hm : m = 3 ∨ m = 4 ∨ m = 5 ∨ m = 6 ∨ m = 7 ∨ m = 8 ∨ m = 10 ∨ m = 11) (hf : b.fit 20) (w : World) (hF : ∀ i, w.heap.size ≤ i → F i) (h : BusAt w F B b) {r : Nat × BusN} (hr : placeN b c m k = r) :
    Calls Try.prog 88 #[.pointer (some ⟨B, 0, none⟩), cpuV c, .int .i64 m, .int .i64 k] w fun e w' => e = .returned (.int .i64 (r.1 : Nat)) ∧ BusAt w' F B r.2 ∧ Turn F w w' := by
  subst hr
  exact placeN_any F B b c hc m k hm hf w hF h

theorem placeN_fit {b : BusN} {c : CpuN} {m k : Int} {j : Nat} (h : b.fit j) : (placeN b c m k).2.fit (j + 4) := by
  unfold placeN baseN
  dsimp only
  repeat' split
  all_goals
    first
    | exact (h.rd).mono (by omega)
    | exact (h.rd.rd).mono (by omega)
    | exact (h.rd.rd.rd).mono (by omega)
    | exact (h.rd.rd.rd.rd).mono (by omega)

theorem placeN_lt {b : BusN} {c : CpuN} {m k : Int} (hb : ∀ a, b.get a < 256) : (placeN b c m k).1 < 65536 := by
  have e1 : ∀ x a, (b.rd x).get a = b.get a := fun _ _ => rfl
  have e2 : ∀ x y a, ((b.rd x).rd y).get a = b.get a := fun _ _ _ => rfl
  have e3 : ∀ x y z a, (((b.rd x).rd y).rd z).get a = b.get a := fun _ _ _ _ => rfl
  have w1 : ∀ a a', word (b.get a) (b.get a') < 65536 := fun a a' => by have := hb a; have := hb a'; unfold word; omega
  unfold placeN baseN
  dsimp only
  repeat' split
  all_goals
    simp only [e1, e2, e3]
    first
    | exact Nat.lt_trans (hb _) (by omega)
    | exact w1 _ _
    | omega

abbrev set11 (W : World) (B : Nat) (v0 v1 v2 v3 v4 v5 v6 v7 v8 v9 v10 : Value) : World := set6 (((((W.setCell ⟨B, 0, none⟩ v0).setCell ⟨B, 1, none⟩ v1).setCell ⟨B, 2, none⟩ v2).setCell ⟨B, 3, none⟩ v3).setCell ⟨B, 4, none⟩ v4) B v5 v6 v7 v8 v9 v10

theorem eleven_set {W : World} {B : Nat} {t : TypeId} {a0 a1 a2 a3 a4 a5 a6 a7 a8 a9 a10 : Value} (h : BoxN W B t #[a0, a1, a2, a3, a4, a5, a6, a7, a8, a9, a10]) (v0 v1 v2 v3 v4 v5 v6 v7 v8 v9 v10 : Value) : BoxN (set11 W B v0 v1 v2 v3 v4 v5 v6 v7 v8 v9 v10) B t #[v0, v1, v2, v3, v4, v5, v6, v7, v8, v9, v10] := by
  have r : BoxN _ B t #[v0, a1, a2, a3, a4, a5, a6, a7, a8, a9, a10] := h.set 0 v0
  have r : BoxN _ B t #[v0, v1, a2, a3, a4, a5, a6, a7, a8, a9, a10] := r.set 1 v1
  have r : BoxN _ B t #[v0, v1, v2, a3, a4, a5, a6, a7, a8, a9, a10] := r.set 2 v2
  have r : BoxN _ B t #[v0, v1, v2, v3, a4, a5, a6, a7, a8, a9, a10] := r.set 3 v3
  have r : BoxN _ B t #[v0, v1, v2, v3, v4, a5, a6, a7, a8, a9, a10] := r.set 4 v4
  exact six_set r v5 v6 v7 v8 v9 v10

theorem eleven_other {W : World} {B B' : Nat} {t : TypeId} {cs : Array Value} (h : BoxN W B' t cs) (hn : B' ≠ B) (v0 v1 v2 v3 v4 v5 v6 v7 v8 v9 v10 : Value) : BoxN (set11 W B v0 v1 v2 v3 v4 v5 v6 v7 v8 v9 v10) B' t cs := by
  have d : B' < B ∨ B + 1 ≤ B' := by omega
  exact six_other (((((h.span (Span.set _ B 0 v0) d).span (Span.set _ B 1 v1) d).span (Span.set _ B 2 v2) d).span (Span.set _ B 3 v3) d).span (Span.set _ B 4 v4) d) hn v5 v6 v7 v8 v9 v10

theorem Sit.eleven {F : Nat → Prop} {w W : World} {k B : Nat} {b : BusN} (s : Sit F w k B W b) {n : Nat} (v0 v1 v2 v3 v4 v5 v6 v7 v8 v9 v10 : Value) (h1 : w.heap.size ≤ n) (h2 : n < w.heap.size + k) : Sit F w k B (set11 W n v0 v1 v2 v3 v4 v5 v6 v7 v8 v9 v10) b :=
  (((((s.set v0 h1 h2).set v1 h1 h2).set v2 h1 h2).set v3 h1 h2).set v4 h1 h2).six v5 v6 v7 v8 v9 v10 h1 h2

/-- A write beside a box that was laid just ahead of it. -/
theorem Sit.wrX {F : Nat → Prop} {w W : World} {k B : Nat} {b : BusN} (s : Sit F w k B W b) (t : TypeId) (cs : Array Value) (x y : Int) (a d : Nat) (hx : x = (a : Int)) (hy : y = (d : Int)) (ha : a < 200000) (hd : d < 256) (hf : b.fit 30) {b' : BusN} (hb' : b.put a d = b') :
    Calls Try.prog 78 #[.pointer (some ⟨B, 0, none⟩), .int .i64 x, .int .u8 y] (W.alloc (.cells cs t)) fun e w' => e = .returned (.tuple #[]) ∧ Went F w k B (W.alloc (.cells cs t)) w' b' ∧ BoxN w' W.heap.size t cs := by
  subst hx
  subst hy
  subst hb'
  refine (wr_any (fun i => Less F w.heap.size k i ∧ i ≠ W.heap.size) B b a d ha hd hf _ (fun i hi => ?_) ((s.bus.less (fun i hi hl => ⟨hl, by omega⟩)).alloc _)).mono ?_
  · rw [World.size_alloc] at hi
    exact ⟨s.hF i (by omega), by omega⟩
  · rintro e w' ⟨rfl, hb, ht⟩
    have s1 : Sit F w k B (W.alloc (.cells cs t)) b := s.below ((Below.refl _ _).alloc (Nat.le_refl _) _)
    exact ⟨rfl, s1.went (hb.less (fun _ _ hl => hl.1)) (ht.mono (fun _ _ hl => hl.1)), (BoxN.new W t cs).turn ht (fun hl => hl.2 rfl)⟩

set_option maxRecDepth 100000 in
set_option maxHeartbeats 2000000 in
theorem data_read (F : Nat → Prop) (B : Nat) (b : BusN) (c : CpuN) (hc : c.ok) (code : Nat) (hcode : code < 256) (i : Nat) (hid : opId code = i) (hi : i ∈ [1, 2, 3, 4, 6, 7, 8, 14, 24, 25, 26, 31]) (m : Int) (hm : opMode code = m) (hmm : m = 3 ∨ m = 4 ∨ m = 5 ∨ m = 6 ∨ m = 7 ∨ m = 8 ∨ m = 10 ∨ m = 11) (hk : opKind code = 2) (sz : Nat) (hsz : opSize code = (sz : Int)) (hsb : sz ≤ 3) (hf : b.fit 10) (w : World) (hF : ∀ i, w.heap.size ≤ i → F i) (h : BusAt w F B b) :
    Calls Try.prog 75 #[.pointer (some ⟨B, 0, none⟩), cpuV c, .int .u8 code] w fun e w' => e = .returned (cpuV (dataN b c code).1) ∧ BusAt w' F B (dataN b c code).2 ∧ Turn F w w' := by
  have hc' := hc
  obtain ⟨hA, hX, hY, hS, hP⟩ := hc
  have hN : opName code = opTx i := by unfold opName; rw [hid]
  obtain ⟨p, hp⟩ : ∃ r_, (c.PC + sz) % 65536 = r_ := ⟨_, rfl⟩
  have pb : p < 65536 := by omega
  have HN := Lib.hid hN
  have HM := Lib.hid hm
  have HK := Lib.hid hk
  have HS2 := Lib.hid hsz
  have HI := Lib.hid hid
  have hm2 : (m == 2) = false := by rcases hmm with h | h | h | h | h | h | h | h <;> (subst h; decide)
  have hm3 : ¬ m = 2 := by simpa using hm2
  obtain ⟨r, hr⟩ : ∃ r_, placeN b c m 2 = r_ := ⟨_, rfl⟩
  have Fr : r.2.fit 14 := by rw [← hr]; exact placeN_fit hf
  have rb : r.1 < 65536 := by rw [← hr]; exact placeN_lt (fun a => h.byte a)
  obtain ⟨e, he⟩ : ∃ r_, r.1 = r_ := ⟨_, rfl⟩
  have eb : e < 65536 := by omega
  obtain ⟨z1, hz1⟩ : ∃ r_, r.2.get e = r_ := ⟨_, rfl⟩
  obtain ⟨b1, hb1⟩ : ∃ r_, r.2.rd e = r_ := ⟨_, rfl⟩
  obtain ⟨u, hu⟩ : ∃ r_, useL ⟨c.A, c.X, c.Y, c.S, p, c.N, c.V, c.D, c.I, c.Z, c.C⟩ (opTx i).toList z1 = r_ := ⟨_, rfl⟩
  have HP : dataN b c code = (u, b1) := by 
    simp [dataN, hN, hm, hm3, hk, hsz, hp, hr, he, hz1, hb1, hu]
  rw [HP]
  dsimp only
  have S0 := Sit.two h hF (.cells (cpuCells c) 28) (.cells zeroCpu 28)
  have q0 : BoxN ((w.alloc (.cells (cpuCells c) 28)).alloc (.cells zeroCpu 28)) w.heap.size 28 (cpuCells c) := (BoxN.new _ _ _).below ((Below.refl _ _).alloc (Nat.le_refl _) _)
  have y0 : BoxN ((w.alloc (.cells (cpuCells c) 28)).alloc (.cells zeroCpu 28)) (w.heap.size + 1) 28 zeroCpu := by
    have := BoxN.new (w.alloc (.cells (cpuCells c) 28)) 28 zeroCpu
    rwa [World.size_alloc] at this
  have Hp := Lib.hid hp
  have Hr := Lib.hid hr
  have He := Lib.hid he
  have Hz1 := Lib.hid hz1
  have Hb1 := Lib.hid hb1
  have Hu := Lib.hid hu
  clear HP hp hr he hz1 hb1 hu
  go_enter Try.func75, Try.ntmps75
  clear hN hm hk hsz hid hm3
  go_wp2_with fail
  refine (name_at code hcode HI.out _).mono ?_
  rintro e w2 ⟨rfl, d1⟩
  have q3 := q0.below d1
  have S4 := S0.below d1
  have y5 := y0.below d1
  clear q0 S0 d1 y0
  go_wp2_with fail
  refine (mode_at code hcode HM.out _).mono ?_
  rintro e w7 ⟨rfl, d6⟩
  have q8 := q3.below d6
  have S9 := S4.below d6
  have y10 := y5.below d6
  clear q3 S4 d6 y5
  go_wp2_with fail
  refine (kind_at code hcode HK.out _).mono ?_
  rintro e w12 ⟨rfl, d11⟩
  have q13 := q8.below d11
  have S14 := S9.below d11
  have y15 := y10.below d11
  clear q8 S9 d11 y10
  go_wp2_with fail
  refine (size_at code hcode HS2.out _).mono ?_
  rintro e w17 ⟨rfl, d16⟩
  have q18 := q13.below d16
  have S19 := S14.below d16
  have y20 := y15.below d16
  clear q13 S14 d16 y15
  have hp2 : IntKind.u16.wrap ((c.PC : Int) + (sz : Int)) = ((p : Nat) : Int) := by rw [u16_of]; have := Hp.out; omega
  have Hp2 := Lib.hid hp2
  clear hp2
  obtain ⟨g0, g1, g2, g3, g4, g5, g6, g7, g8, g9, g10, f0⟩ := eleven q18
  go_wp2_with fail
  refine (place_at _ B b c hc' m 2 hmm (hf.mono (by omega)) _ S19.hF S19.bus Hr.out).mono ?_
  rintro e w22 ⟨rfl, hB_, hT_⟩
  have t21 := S19.went hB_ hT_
  have q23 := t21.box _ _ _ (Nat.le_refl _) (by omega) q18
  have y25 := t21.box _ _ _ (by omega) (by omega) y20
  have S24 := t21.sit
  clear g0 g1 g2 g3 g4 g5 g6 g7 g8 g9 g10 f0
  clear hB_ hT_ q18 S19 t21 y20
  obtain ⟨g0, g1, g2, g3, g4, g5, g6, g7, g8, g9, g10, f0⟩ := eleven q23
  have hp2 := Hp2.out
  have he_ := He.out
  rw [he_]
  clear he_
  have q26 : BoxN (w22.setCell ⟨w.heap.size, 4, none⟩ (.int .u16 (p : Int))) w.heap.size 28 #[.int .u8 (c.A : Int), .int .u8 (c.X : Int), .int .u8 (c.Y : Int), .int .u8 (c.S : Int), .int .u16 (p : Int), .bool c.N, .bool c.V, .bool c.D, .bool c.I, .bool c.Z, .bool c.C] := q23.set 4 (.int .u16 (p : Int))
  have S27 : Sit F w 2 B (w22.setCell ⟨w.heap.size, 4, none⟩ (.int .u16 (p : Int))) r.2 := S24.set (.int .u16 (p : Int)) (Nat.le_refl _) (by omega)
  have y28 := y25.span (Span.set w22 w.heap.size 4 (.int .u16 (p : Int))) (by omega)
  clear q23 S24 y25
  go_wp2_with fail
  clear g0 g1 g2 g3 g4 g5 g6 g7 g8 g9 g10 f0
  generalize w22.setCell ⟨w.heap.size, 4, none⟩ (.int .u16 (p : Int)) = wT at q26 S27 y28 ⊢
  clear hp2
  have z1b : z1 < 256 := by rw [← Hz1.out]; exact S27.bus.byte _
  obtain ⟨g0, g1, g2, g3, g4, g5, g6, g7, g8, g9, g10, f0⟩ := eleven q26.drew
  go_region_with (first | (go_at_call 69; refine (S27.drew.rd _ e rfl (by omega) (Fr.mono (by omega)) Hz1.out Hb1.out).mono ?_; rintro e' wR ⟨rfl, tR⟩; (have qR := tR.box _ _ _ (Nat.le_refl _) (by omega) q26.drew); clear g0 g1 g2 g3 g4 g5 g6 g7 g8 g9 g10 f0; obtain ⟨g0, g1, g2, g3, g4, g5, g6, g7, g8, g9, g10, f0⟩ := eleven qR) | (go_at_call 87; refine (use_at i hi ⟨c.A, c.X, c.Y, c.S, p, c.N, c.V, c.D, c.I, c.Z, c.C⟩ ⟨hA, hX, hY, hS, pb⟩ z1 z1b Hu.out _).mono ?_; rintro e' wU ⟨rfl, dU⟩; (have yU := (tR.box _ _ _ (by omega) (by omega) y28.drew).below dU); clear g0 g1 g2 g3 g4 g5 g6 g7 g8 g9 g10 f0; obtain ⟨h0, h1, h2, h3, h4, h5, h6, h7, h8, h9, h10, f1⟩ := eleven yU))
  all_goals
    have SU := tR.sit.below dU
    have HS := Lib.hid SU
    clear SU tR dU qR yU q26 S27 y28
    go_wp2
    refine bodyPost_ret (v := cpuV u) (by simp [results, Try.results75, go_sem, h0, h1, h2, h3, h4, h5, h6, h7, h8, h9, h10]) rfl ⟨rfl, ?_⟩
    refine Sit.out (k := 2) ?_
    repeat (any_goals (first | (with_reducible exact HS.out) | (with_reducible refine Sit.drew ?_) | (with_reducible refine Sit.set ?_ _ ?_ ?_)))
    all_goals (first | (with_reducible exact Nat.le_refl _) | omega | (simp; done))

set_option maxRecDepth 100000 in
set_option maxHeartbeats 1000000 in
theorem data_write (F : Nat → Prop) (B : Nat) (b : BusN) (c : CpuN) (hc : c.ok) (code : Nat) (hcode : code < 256) (i : Nat) (hid : opId code = i) (hi : i ∈ [5, 13, 23]) (m : Int) (hm : opMode code = m) (hmm : m = 3 ∨ m = 4 ∨ m = 5 ∨ m = 6 ∨ m = 7 ∨ m = 8 ∨ m = 10 ∨ m = 11) (hk : opKind code = 3) (sz : Nat) (hsz : opSize code = (sz : Int)) (hsb : sz ≤ 3) (hf : b.fit 10) (w : World) (hF : ∀ i, w.heap.size ≤ i → F i) (h : BusAt w F B b) :
    Calls Try.prog 75 #[.pointer (some ⟨B, 0, none⟩), cpuV c, .int .u8 code] w fun e w' => e = .returned (cpuV (dataN b c code).1) ∧ BusAt w' F B (dataN b c code).2 ∧ Turn F w w' := by
  have hc' := hc
  obtain ⟨hA, hX, hY, hS, hP⟩ := hc
  have hN : opName code = opTx i := by unfold opName; rw [hid]
  obtain ⟨p, hp⟩ : ∃ r_, (c.PC + sz) % 65536 = r_ := ⟨_, rfl⟩
  have pb : p < 65536 := by omega
  have HN := Lib.hid hN
  have HM := Lib.hid hm
  have HK := Lib.hid hk
  have HS2 := Lib.hid hsz
  have HI := Lib.hid hid
  have hm2 : (m == 2) = false := by rcases hmm with h | h | h | h | h | h | h | h <;> (subst h; decide)
  have hm3 : ¬ m = 2 := by simpa using hm2
  obtain ⟨r, hr⟩ : ∃ r_, placeN b c m 3 = r_ := ⟨_, rfl⟩
  have Fr : r.2.fit 14 := by rw [← hr]; exact placeN_fit hf
  have rb : r.1 < 65536 := by rw [← hr]; exact placeN_lt (fun a => h.byte a)
  obtain ⟨e, he⟩ : ∃ r_, r.1 = r_ := ⟨_, rfl⟩
  have eb : e < 65536 := by omega
  obtain ⟨x, hx⟩ : ∃ r_, storeL ⟨c.A, c.X, c.Y, c.S, p, c.N, c.V, c.D, c.I, c.Z, c.C⟩ (opTx i).toList = r_ := ⟨_, rfl⟩
  have xb : x < 256 := by rw [← hx]; exact storeL_lt ⟨c.A, c.X, c.Y, c.S, p, c.N, c.V, c.D, c.I, c.Z, c.C⟩ ⟨hA, hX, hY, hS, pb⟩ _
  obtain ⟨b1, hb1⟩ : ∃ r_, r.2.put (e) (x) = r_ := ⟨_, rfl⟩
  have Fb1 : b1.fit 15 := by rw [← hb1]; exact Fr.put
  have HP : dataN b c code = ({ c with PC := p }, b1) := by 
    simp [dataN, hN, hm, hm3, hk, hsz, hp, hr, he, hx, hb1]
  rw [HP]
  dsimp only
  have S0 := Sit.two h hF (.cells (cpuCells c) 28) (.cells zeroCpu 28)
  have q0 : BoxN ((w.alloc (.cells (cpuCells c) 28)).alloc (.cells zeroCpu 28)) w.heap.size 28 (cpuCells c) := (BoxN.new _ _ _).below ((Below.refl _ _).alloc (Nat.le_refl _) _)
  have y0 : BoxN ((w.alloc (.cells (cpuCells c) 28)).alloc (.cells zeroCpu 28)) (w.heap.size + 1) 28 zeroCpu := by
    have := BoxN.new (w.alloc (.cells (cpuCells c) 28)) 28 zeroCpu
    rwa [World.size_alloc] at this
  have Hp := Lib.hid hp
  have Hr := Lib.hid hr
  have He := Lib.hid he
  have Hx := Lib.hid hx
  have Hb1 := Lib.hid hb1
  clear HP hp hr he hx hb1
  go_enter Try.func75, Try.ntmps75
  clear hN hm hk hsz hid hm3
  go_wp2_with fail
  refine (name_at code hcode HI.out _).mono ?_
  rintro e w2 ⟨rfl, d1⟩
  have q3 := q0.below d1
  have S4 := S0.below d1
  have y5 := y0.below d1
  clear q0 S0 d1 y0
  go_wp2_with fail
  refine (mode_at code hcode HM.out _).mono ?_
  rintro e w7 ⟨rfl, d6⟩
  have q8 := q3.below d6
  have S9 := S4.below d6
  have y10 := y5.below d6
  clear q3 S4 d6 y5
  go_wp2_with fail
  refine (kind_at code hcode HK.out _).mono ?_
  rintro e w12 ⟨rfl, d11⟩
  have q13 := q8.below d11
  have S14 := S9.below d11
  have y15 := y10.below d11
  clear q8 S9 d11 y10
  go_wp2_with fail
  refine (size_at code hcode HS2.out _).mono ?_
  rintro e w17 ⟨rfl, d16⟩
  have q18 := q13.below d16
  have S19 := S14.below d16
  have y20 := y15.below d16
  clear q13 S14 d16 y15
  have hp2 : IntKind.u16.wrap ((c.PC : Int) + (sz : Int)) = ((p : Nat) : Int) := by rw [u16_of]; have := Hp.out; omega
  have Hp2 := Lib.hid hp2
  clear hp2
  obtain ⟨g0, g1, g2, g3, g4, g5, g6, g7, g8, g9, g10, f0⟩ := eleven q18
  go_wp2_with fail
  refine (place_at _ B b c hc' m 3 hmm (hf.mono (by omega)) _ S19.hF S19.bus Hr.out).mono ?_
  rintro e w22 ⟨rfl, hB_, hT_⟩
  have t21 := S19.went hB_ hT_
  have q23 := t21.box _ _ _ (Nat.le_refl _) (by omega) q18
  have y25 := t21.box _ _ _ (by omega) (by omega) y20
  have S24 := t21.sit
  clear g0 g1 g2 g3 g4 g5 g6 g7 g8 g9 g10 f0
  clear hB_ hT_ q18 S19 t21 y20
  obtain ⟨g0, g1, g2, g3, g4, g5, g6, g7, g8, g9, g10, f0⟩ := eleven q23
  have hp2 := Hp2.out
  have he_ := He.out
  rw [he_]
  clear he_
  have q26 : BoxN (w22.setCell ⟨w.heap.size, 4, none⟩ (.int .u16 (p : Int))) w.heap.size 28 #[.int .u8 (c.A : Int), .int .u8 (c.X : Int), .int .u8 (c.Y : Int), .int .u8 (c.S : Int), .int .u16 (p : Int), .bool c.N, .bool c.V, .bool c.D, .bool c.I, .bool c.Z, .bool c.C] := q23.set 4 (.int .u16 (p : Int))
  have S27 : Sit F w 2 B (w22.setCell ⟨w.heap.size, 4, none⟩ (.int .u16 (p : Int))) r.2 := S24.set (.int .u16 (p : Int)) (Nat.le_refl _) (by omega)
  have y28 := y25.span (Span.set w22 w.heap.size 4 (.int .u16 (p : Int))) (by omega)
  clear q23 S24 y25
  go_wp2_with fail
  refine (reg_at i hi ⟨c.A, c.X, c.Y, c.S, p, c.N, c.V, c.D, c.I, c.Z, c.C⟩ Hx.out _).mono ?_
  rintro e w30 ⟨rfl, d29⟩
  have q31 := q26.below d29
  have S32 := S27.below d29
  have y33 := y28.below d29
  clear g0 g1 g2 g3 g4 g5 g6 g7 g8 g9 g10 f0
  clear q26 S27 d29 y28
  clear hp2
  go_wp2_with fail
  refine (S32.wr _ _ (e) (x) rfl rfl (by omega) (by omega) (Fr.mono (by omega)) Hb1.out).mono ?_
  rintro e w35 ⟨rfl, t34⟩
  have q36 := t34.box _ _ _ (Nat.le_refl _) (by omega) q31
  have y38 := t34.box _ _ _ (by omega) (by omega) y33
  have S37 := t34.sit
  clear q31 S32 t34 y33
  obtain ⟨g0, g1, g2, g3, g4, g5, g6, g7, g8, g9, g10, f0⟩ := eleven q36
  obtain ⟨h0, h1, h2, h3, h4, h5, h6, h7, h8, h9, h10, f1⟩ := eleven y38
  have HS := Lib.hid S37
  clear S37 q36 y38
  go_wp2
  refine bodyPost_ret (v := cpuV ({ c with PC := p })) (by simp [results, Try.results75, go_sem, g0, g1, g2, g3, g4, g5, g6, g7, g8, g9, g10, h0, h1, h2, h3, h4, h5, h6, h7, h8, h9, h10]) rfl ⟨rfl, ?_⟩
  refine Sit.out (k := 2) ?_
  repeat (any_goals (first | (with_reducible exact HS.out) | (with_reducible refine Sit.drew ?_) | (with_reducible refine Sit.set ?_ _ ?_ ?_)))
  all_goals (first | (with_reducible exact Nat.le_refl _) | omega | (simp; done))

set_option maxRecDepth 100000 in
set_option maxHeartbeats 1000000 in
theorem data_mod (F : Nat → Prop) (B : Nat) (b : BusN) (c : CpuN) (hc : c.ok) (code : Nat) (hcode : code < 256) (i : Nat) (hid : opId code = i) (hi : i ∈ [9, 10, 11, 12, 15, 16]) (m : Int) (hm : opMode code = m) (hmm : m = 3 ∨ m = 4 ∨ m = 5 ∨ m = 6 ∨ m = 7 ∨ m = 8 ∨ m = 10 ∨ m = 11) (hk : opKind code = 4) (sz : Nat) (hsz : opSize code = (sz : Int)) (hsb : sz ≤ 3) (hf : b.fit 10) (w : World) (hF : ∀ i, w.heap.size ≤ i → F i) (h : BusAt w F B b) :
    Calls Try.prog 75 #[.pointer (some ⟨B, 0, none⟩), cpuV c, .int .u8 code] w fun e w' => e = .returned (cpuV (dataN b c code).1) ∧ BusAt w' F B (dataN b c code).2 ∧ Turn F w w' := by
  have hc' := hc
  obtain ⟨hA, hX, hY, hS, hP⟩ := hc
  have hN : opName code = opTx i := by unfold opName; rw [hid]
  obtain ⟨p, hp⟩ : ∃ r_, (c.PC + sz) % 65536 = r_ := ⟨_, rfl⟩
  have pb : p < 65536 := by omega
  have HN := Lib.hid hN
  have HM := Lib.hid hm
  have HK := Lib.hid hk
  have HS2 := Lib.hid hsz
  have HI := Lib.hid hid
  have hm2 : (m == 2) = false := by rcases hmm with h | h | h | h | h | h | h | h <;> (subst h; decide)
  have hm3 : ¬ m = 2 := by simpa using hm2
  obtain ⟨r, hr⟩ : ∃ r_, placeN b c m 4 = r_ := ⟨_, rfl⟩
  have Fr : r.2.fit 14 := by rw [← hr]; exact placeN_fit hf
  have rb : r.1 < 65536 := by rw [← hr]; exact placeN_lt (fun a => h.byte a)
  obtain ⟨e, he⟩ : ∃ r_, r.1 = r_ := ⟨_, rfl⟩
  have eb : e < 65536 := by omega
  obtain ⟨z1, hz1⟩ : ∃ r_, r.2.get (e) = r_ := ⟨_, rfl⟩
  obtain ⟨b1, hb1⟩ : ∃ r_, r.2.rd (e) = r_ := ⟨_, rfl⟩
  have Fb1 : b1.fit 15 := by rw [← hb1]; exact Fr.rd
  obtain ⟨b2, hb2⟩ : ∃ r_, b1.put (e) (z1) = r_ := ⟨_, rfl⟩
  have Fb2 : b2.fit 16 := by rw [← hb2]; exact Fb1.put
  obtain ⟨x, hx⟩ : ∃ r_, chgB (opTx i).toList z1 c.C = r_ := ⟨_, rfl⟩
  obtain ⟨fN, hfN⟩ : ∃ r_, (c.chg (opTx i).toList z1).N = r_ := ⟨_, rfl⟩
  obtain ⟨fZ, hfZ⟩ : ∃ r_, (c.chg (opTx i).toList z1).Z = r_ := ⟨_, rfl⟩
  obtain ⟨fC, hfC⟩ : ∃ r_, (c.chg (opTx i).toList z1).C = r_ := ⟨_, rfl⟩
  obtain ⟨b3, hb3⟩ : ∃ r_, b2.put e x = r_ := ⟨_, rfl⟩
  have HP : dataN b c code = ({ c with PC := p, N := fN, Z := fZ, C := fC }, b3) := by 
    have e1 : (CpuN.chg ⟨c.A, c.X, c.Y, c.S, p, c.N, c.V, c.D, c.I, c.Z, c.C⟩ (opTx i).toList z1) = ⟨c.A, c.X, c.Y, c.S, p, fN, c.V, c.D, c.I, fZ, fC⟩ := by rw [← hfN, ← hfZ, ← hfC]; rfl
    simp [dataN, hN, hm, hm3, hk, hsz, hp, hr, he, hz1, hb1, hb2, hx, hfN, hfZ, hfC, hb3, e1]
  rw [HP]
  dsimp only
  have S0 := Sit.two h hF (.cells (cpuCells c) 28) (.cells zeroCpu 28)
  have q0 : BoxN ((w.alloc (.cells (cpuCells c) 28)).alloc (.cells zeroCpu 28)) w.heap.size 28 (cpuCells c) := (BoxN.new _ _ _).below ((Below.refl _ _).alloc (Nat.le_refl _) _)
  have y0 : BoxN ((w.alloc (.cells (cpuCells c) 28)).alloc (.cells zeroCpu 28)) (w.heap.size + 1) 28 zeroCpu := by
    have := BoxN.new (w.alloc (.cells (cpuCells c) 28)) 28 zeroCpu
    rwa [World.size_alloc] at this
  have Hp := Lib.hid hp
  have Hr := Lib.hid hr
  have He := Lib.hid he
  have Hz1 := Lib.hid hz1
  have Hb1 := Lib.hid hb1
  have Hb2 := Lib.hid hb2
  have Hx := Lib.hid hx
  have HfN := Lib.hid hfN
  have HfZ := Lib.hid hfZ
  have HfC := Lib.hid hfC
  have Hb3 := Lib.hid hb3
  clear HP hp hr he hz1 hb1 hb2 hx hfN hfZ hfC hb3
  go_enter Try.func75, Try.ntmps75
  clear hN hm hk hsz hid hm3
  go_wp2_with fail
  refine (name_at code hcode HI.out _).mono ?_
  rintro e w2 ⟨rfl, d1⟩
  have q3 := q0.below d1
  have S4 := S0.below d1
  have y5 := y0.below d1
  clear q0 S0 d1 y0
  go_wp2_with fail
  refine (mode_at code hcode HM.out _).mono ?_
  rintro e w7 ⟨rfl, d6⟩
  have q8 := q3.below d6
  have S9 := S4.below d6
  have y10 := y5.below d6
  clear q3 S4 d6 y5
  go_wp2_with fail
  refine (kind_at code hcode HK.out _).mono ?_
  rintro e w12 ⟨rfl, d11⟩
  have q13 := q8.below d11
  have S14 := S9.below d11
  have y15 := y10.below d11
  clear q8 S9 d11 y10
  go_wp2_with fail
  refine (size_at code hcode HS2.out _).mono ?_
  rintro e w17 ⟨rfl, d16⟩
  have q18 := q13.below d16
  have S19 := S14.below d16
  have y20 := y15.below d16
  clear q13 S14 d16 y15
  have hp2 : IntKind.u16.wrap ((c.PC : Int) + (sz : Int)) = ((p : Nat) : Int) := by rw [u16_of]; have := Hp.out; omega
  have Hp2 := Lib.hid hp2
  clear hp2
  obtain ⟨g0, g1, g2, g3, g4, g5, g6, g7, g8, g9, g10, f0⟩ := eleven q18
  go_wp2_with fail
  refine (place_at _ B b c hc' m 4 hmm (hf.mono (by omega)) _ S19.hF S19.bus Hr.out).mono ?_
  rintro e w22 ⟨rfl, hB_, hT_⟩
  have t21 := S19.went hB_ hT_
  have q23 := t21.box _ _ _ (Nat.le_refl _) (by omega) q18
  have y25 := t21.box _ _ _ (by omega) (by omega) y20
  have S24 := t21.sit
  clear g0 g1 g2 g3 g4 g5 g6 g7 g8 g9 g10 f0
  clear hB_ hT_ q18 S19 t21 y20
  obtain ⟨g0, g1, g2, g3, g4, g5, g6, g7, g8, g9, g10, f0⟩ := eleven q23
  have hp2 := Hp2.out
  have he_ := He.out
  rw [he_]
  clear he_
  have q26 : BoxN (w22.setCell ⟨w.heap.size, 4, none⟩ (.int .u16 (p : Int))) w.heap.size 28 #[.int .u8 (c.A : Int), .int .u8 (c.X : Int), .int .u8 (c.Y : Int), .int .u8 (c.S : Int), .int .u16 (p : Int), .bool c.N, .bool c.V, .bool c.D, .bool c.I, .bool c.Z, .bool c.C] := q23.set 4 (.int .u16 (p : Int))
  have S27 : Sit F w 2 B (w22.setCell ⟨w.heap.size, 4, none⟩ (.int .u16 (p : Int))) r.2 := S24.set (.int .u16 (p : Int)) (Nat.le_refl _) (by omega)
  have y28 := y25.span (Span.set w22 w.heap.size 4 (.int .u16 (p : Int))) (by omega)
  clear q23 S24 y25
  go_wp2_with fail
  refine (S27.rd _ (e) rfl (by omega) (Fr.mono (by omega)) Hz1.out Hb1.out).mono ?_
  rintro e w30 ⟨rfl, t29⟩
  have q31 := t29.box _ _ _ (Nat.le_refl _) (by omega) q26
  have y33 := t29.box _ _ _ (by omega) (by omega) y28
  have S32 := t29.sit
  have z1b : z1 < 256 := by rw [← Hz1.out]; exact S27.bus.byte _
  clear g0 g1 g2 g3 g4 g5 g6 g7 g8 g9 g10 f0
  clear q26 S27 t29 y28
  clear hp2
  obtain ⟨g0, g1, g2, g3, g4, g5, g6, g7, g8, g9, g10, f0⟩ := eleven q31
  go_wp2_with fail
  refine (S32.wr _ _ (e) (z1) rfl rfl (by omega) (by omega) (Fb1.mono (by omega)) Hb2.out).mono ?_
  rintro e w35 ⟨rfl, t34⟩
  have q36 := t34.box _ _ _ (Nat.le_refl _) (by omega) q31
  have y38 := t34.box _ _ _ (by omega) (by omega) y33
  have S37 := t34.sit
  clear g0 g1 g2 g3 g4 g5 g6 g7 g8 g9 g10 f0
  clear q31 S32 t34 y33
  obtain ⟨g0, g1, g2, g3, g4, g5, g6, g7, g8, g9, g10, f0⟩ := eleven q36
  go_wp2_with fail
  refine (chg_at i hi c z1 z1b Hx.out HfN.out HfZ.out HfC.out _).mono ?_
  rintro e w40 ⟨rfl, d39⟩
  have q41 := q36.below d39
  have S42 := S37.below d39
  have y43 := y38.below d39
  clear g0 g1 g2 g3 g4 g5 g6 g7 g8 g9 g10 f0
  clear q36 S37 d39 y38
  have xb : x < 256 := by rw [← Hx.out]; exact chgB_lt _ _ z1b _
  obtain ⟨g0, g1, g2, g3, g4, g5, g6, g7, g8, g9, g10, f0⟩ := eleven q41
  go_wp2_with fail
  refine (S42.wrX 26 #[.bool fN, .bool c.V, .bool c.D, .bool c.I, .bool fZ, .bool fC] _ _ e x rfl rfl (by omega) xb (Fb2.mono (by omega)) Hb3.out).mono ?_
  rintro e' wX ⟨rfl, tX, fX⟩
  have qX := tX.box _ _ _ (Nat.le_refl _) (by omega) (q41.below ((Below.refl _ _).alloc (Nat.le_refl _) _))
  have yX := tX.box _ _ _ (by omega) (by omega) (y43.below ((Below.refl _ _).alloc (Nat.le_refl _) _))
  have SX := tX.sit
  clear g0 g1 g2 g3 g4 g5 g6 g7 g8 g9 g10 f0
  clear tX q41 S42 y43
  obtain ⟨k0, k1, k2, k3, k4, k5, f2⟩ := six fX
  clear fX
  obtain ⟨g0, g1, g2, g3, g4, g5, g6, g7, g8, g9, g10, f0⟩ := eleven qX
  obtain ⟨h0, h1, h2, h3, h4, h5, h6, h7, h8, h9, h10, f1⟩ := eleven yX
  have HS := Lib.hid SX
  clear SX qX yX
  go_wp2
  refine bodyPost_ret (v := cpuV ({ c with PC := p, N := fN, Z := fZ, C := fC })) (by simp [results, Try.results75, go_sem, g0, g1, g2, g3, g4, g5, g6, g7, g8, g9, g10, h0, h1, h2, h3, h4, h5, h6, h7, h8, h9, h10, k0, k1, k2, k3, k4, k5]) rfl ⟨rfl, ?_⟩
  refine Sit.out (k := 2) ?_
  repeat (any_goals (first | (with_reducible exact HS.out) | (with_reducible refine Sit.drew ?_) | (with_reducible refine Sit.set ?_ _ ?_ ?_)))
  all_goals (first | (with_reducible exact Nat.le_refl _) | omega | (simp; done))

end Go.Proofs.Ytckfdbjjjgfbfaa
