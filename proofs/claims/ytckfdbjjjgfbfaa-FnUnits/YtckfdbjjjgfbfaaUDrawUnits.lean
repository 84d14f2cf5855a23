/-
  Contracts over the program: the run and the place that FnUnits draws.
-/
import Derived.Test.YtckfdbjjjgfbfaaURegDraw
import Derived.Test.YtckfdbjjjgfbfaaUDrawMach
import Derived.Test.YtckfdbjjjgfbfaaUSpecRun
import Derived.Deep.DeepCutAuto
namespace Go.Proofs.Ytckfdbjjjgfbfaa
set_option linter.unusedVariables false
set_option linter.unusedSimpArgs false
open Go.RowKit

theorem Span.grown1 {w w' : World} {B : Nat} (h : Span B (B + 1) w w') : w.grownBy w' (some B) :=
  ⟨h.os, h.tape, h.output, h.size, fun i hi hn => h.block i hi (by have : i ≠ B := fun e => hn (by rw [e]); omega)⟩

theorem unitLen (E : List EvN) (k : Nat) (s : ShotN) : (unitN E k s).mem.length ≤ s.mem.length ∧ (unitN E k s).trace.length ≤ s.trace.length + 8 ∧ (unitN E k s).starts.length ≤ s.starts.length + 1 ∧ (unitN E k s).cpus.length ≤ s.cpus.length + 1 := by
  have hon : ∀ r : CpuN × BusN, r.2.mem.length ≤ s.mem.length → r.2.log.length ≤ 8 → (s.on r).mem.length ≤ s.mem.length ∧ (s.on r).trace.length ≤ s.trace.length + 8 ∧ (s.on r).starts.length ≤ s.starts.length + 1 ∧ (s.on r).cpus.length ≤ s.cpus.length + 1 := fun r h1 h2 =>
    ⟨h1, by show (s.trace ++ r.2.log).length ≤ _; rw [List.length_append]; omega, by show (s.starts ++ [s.trace.length]).length ≤ _; rw [List.length_append]; exact Nat.le_refl _, by show (s.cpus ++ [s.cpu]).length ≤ _; rw [List.length_append]; exact Nat.le_refl _⟩
  unfold unitN
  split
  · exact hon _ (servedN_len s.cpu s.mem true).1 (servedN_len s.cpu s.mem true).2
  · split
    · exact hon _ (servedN_len s.cpu s.mem false).1 (servedN_len s.cpu s.mem false).2
    · split
      · exact ⟨Nat.le_refl _, Nat.le_add_right _ _, Nat.le_add_right _ _, Nat.le_add_right _ _⟩
      · exact hon _ (stepN_len s.cpu s.mem).1 (stepN_len s.cpu s.mem).2

theorem unitsLen (E : List EvN) : ∀ (n k : Nat) (s : ShotN), (unitsN E n k s).mem.length ≤ s.mem.length ∧ (unitsN E n k s).trace.length ≤ s.trace.length + 8 * n ∧ (unitsN E n k s).starts.length ≤ s.starts.length + n ∧ (unitsN E n k s).cpus.length ≤ s.cpus.length + n
  | 0, _, _ => ⟨Nat.le_refl _, Nat.le_refl _, Nat.le_refl _, Nat.le_refl _⟩
  | n + 1, k, s => by
    rw [unitsN_succ]
    split
    · exact ⟨Nat.le_refl _, by omega, by omega, by omega⟩
    · have h1 := unitLen E k s
      have h2 := unitsLen E n (k + 1) (unitN E k s)
      omega

/-- A run of twelve units is short, and its starts rise. -/
def RunOf (r : ShotI) : Prop := r.trace.length ≤ 96 ∧ r.starts.length ≤ 12 ∧ r.starts.Pairwise (· < ·) ∧ (∀ x ∈ r.starts, 0 ≤ x ∧ x < (r.trace.length : Int)) ∧ (0 < r.trace.length → r.starts.head? = some 0)

theorem runOf (c : CpuN) (L : List Nat) (E : List EvN) : RunOf (shownN c L E 12).int := by
  unfold shownN
  split
  · rename_i h
    have hu := unitsLen E 12 0 (beginN c L)
    have e2 : (beginN c L).trace.length = 0 := rfl
    have e3 : (beginN c L).starts.length = 0 := rfl
    have hr := rise_run c L E 12 h.1
    refine ⟨?_, ?_, ?_, ?_, ?_⟩
    · show (unitsN E 12 0 (beginN c L)).trace.length ≤ 96; omega
    · show ((unitsN E 12 0 (beginN c L)).starts.map (fun (n : Nat) => (n : Int))).length ≤ 12; rw [List.length_map]; omega
    · show ((runN c L E 12).starts.map (fun (n : Nat) => (n : Int))).Pairwise (· < ·)
      rw [List.pairwise_map]
      exact hr.up.imp (fun h => by omega)
    · intro x hx
      obtain ⟨m, hm, rfl⟩ := List.mem_map.1 (show x ∈ (runN c L E 12).starts.map (fun (n : Nat) => (n : Int)) from hx)
      have := hr.within m hm
      show (0 : Int) ≤ (m : Int) ∧ (m : Int) < ((runN c L E 12).trace.length : Int)
      omega
    · intro h0
      have := hr.first h0
      show ((runN c L E 12).starts.map (fun (n : Nat) => (n : Int))).head? = some 0
      rw [List.head?_map, this]
      rfl
  · exact ⟨Nat.zero_le _, Nat.zero_le _, List.Pairwise.nil, fun x hx => absurd hx (List.not_mem_nil), fun h => absurd h (Nat.lt_irrefl 0)⟩

def DrewUnits (w : World) (e : Ending) (w' : World) : Prop :=
  ∃ (r : ShotI) (m t st p : Value) (i : Int) (lo hi : Nat), e = .returned (.tuple #[shotV r.cpu m t st p r.jam, .int .i64 i]) ∧ RunOf r ∧ -1 ≤ i ∧ i ≤ 98 ∧ ShotOwn w' lo hi m t st p r ∧ w.heap.size ≤ lo ∧ Below w.heap.size w w'

set_option maxRecDepth 100000 in
set_option maxHeartbeats 4000000 in
theorem drawUnits_any (n₀ : Nat) (a : Option Addr) (len cap : Nat) (z : List Int) (w : World) (hc : CodeRow n₀ w a len z) (hn : n₀ ≤ w.heap.size) :
    Calls Try.prog 7 #[.slice a len cap] w (DrewUnits w) := by
  have d0 : Below w.heap.size w (w.alloc (.cells #[.int .u8 0, .int .u8 0, .int .u8 0, .int .u8 0, .int .u16 0, .bool false, .bool false, .bool false, .bool false, .bool false, .bool false, .slice none 0 0, .slice none 0 0, .slice none 0 0, .slice none 0 0, .bool false] 35)) := (Below.refl _ _).alloc (Nat.le_refl _) _
  have bx := BoxN.new w 35 #[.int .u8 0, .int .u8 0, .int .u8 0, .int .u8 0, .int .u16 0, .bool false, .bool false, .bool false, .bool false, .bool false, .bool false, .slice none 0 0, .slice none 0 0, .slice none 0 0, .slice none 0 0, .bool false]
  have hc0 := hc.kept (d0.mono hn)
  have hn0 : n₀ ≤ (w.alloc (.cells #[.int .u8 0, .int .u8 0, .int .u8 0, .int .u8 0, .int .u16 0, .bool false, .bool false, .bool false, .bool false, .bool false, .bool false, .slice none 0 0, .slice none 0 0, .slice none 0 0, .slice none 0 0, .bool false] 35)).heap.size := Nat.le_trans hn d0.size
  have hst := hc0.startS (cap := cap) hn0
  rw [World.size_alloc] at hst
  go_enter Try.func7, Try.ntmps7
  go_wp2_with fail
  refine (new_any n₀ a len cap z _ hc0).mono ?_
  rintro e w1 ⟨rfl, rfl⟩
  have d1 := d0.alloc (by simp) (.cells #[.slice a len cap, .int .i64 0, .int .i64 (startH z len)] 85)
  have bx1 := bx.below ((Below.refl _ _).alloc (Nat.le_refl _) (.cells #[.slice a len cap, .int .i64 0, .int .i64 (startH z len)] 85))
  rw [World.size_alloc]
  have zs1 : ((w.alloc (.cells #[.int .u8 0, .int .u8 0, .int .u8 0, .int .u8 0, .int .u16 0, .bool false, .bool false, .bool false, .bool false, .bool false, .bool false, .slice none 0 0, .slice none 0 0, .slice none 0 0, .slice none 0 0, .bool false] 35)).alloc (.cells #[.slice a len cap, .int .i64 0, .int .i64 (startH z len)] 85)).heap.size = w.heap.size + 1 + 1 := by simp
  generalize (w.alloc (.cells #[.int .u8 0, .int .u8 0, .int .u8 0, .int .u8 0, .int .u16 0, .bool false, .bool false, .bool false, .bool false, .bool false, .bool false, .slice none 0 0, .slice none 0 0, .slice none 0 0, .slice none 0 0, .bool false] 35)).alloc (.cells #[.slice a len cap, .int .i64 0, .int .i64 (startH z len)] 85) = w1 at hst d1 bx1 zs1 ⊢
  replace zs1 := Lib.hid zs1
  have HN := Lib.hid hn
  have HD := Lib.hid d1
  have hgg : w1.grownBy w1 (some (w.heap.size + 1)) := grown_of_below (Below.refl _ _)
  clear bx d0 hc0 hn0 d1 hc hn
  replace bx1 := Lib.hid bx1
  replace hgg := Lib.hid hgg
  replace hst := Lib.hid hst
  go_wp2_with fail
  replace bx1 := bx1.out
  replace hgg := hgg.out
  replace hst := hst.out
  refine (mach_drawn n₀ (w.heap.size + 1) a len cap z _ _ hst).mono ?_
  rintro e w1 ⟨c, v1, L, s1, hc, hL, rfl, o1, d2, g3⟩
  obtain ⟨a1, c1, rfl⟩ := o1.len
  replace hc := Lib.hid hc
  replace hL := Lib.hid hL
  have G4 := grown_trans hgg g3
  have u6 := Lib.hid (And.intro zs1.out HN.out)
  have p5 := bx1.grown g3 (by have := u6.out; omega)
  have z7 := Lib.hid g3.size
  clear hgg hst bx1
  have s8 := SegB.of o1
  clear o1
  have y9 := BoxN.new w1 28 #[.int .u8 (c.A : Int), .int .u8 (c.X : Int), .int .u8 (c.Y : Int), .int .u8 (c.S : Int), .int .u16 (c.PC : Int), .bool c.N, .bool c.V, .bool c.D, .bool c.I, .bool c.Z, .bool c.C]
  have a10 := alw w1 (.cells #[.int .u8 (c.A : Int), .int .u8 (c.X : Int), .int .u8 (c.Y : Int), .int .u8 (c.S : Int), .int .u16 (c.PC : Int), .bool c.N, .bool c.V, .bool c.D, .bool c.I, .bool c.Z, .bool c.C] 28)
  have z11 : Hid ((w1.alloc (.cells #[.int .u8 (c.A : Int), .int .u8 (c.X : Int), .int .u8 (c.Y : Int), .int .u8 (c.S : Int), .int .u16 (c.PC : Int), .bool c.N, .bool c.V, .bool c.D, .bool c.I, .bool c.Z, .bool c.C] 28)).heap.size = w1.heap.size + 1) := Lib.hid (World.size_alloc _ _)
  have G12 := grown_trans G4 (grown_of_below a10)
  have D13 := d2.below a10
  have p14 := p5.below a10
  have p15 := s8.below a10
  have z16 := Lib.hid a10.size
  clear G4 d2 p5 s8 g3
  have y17 := BoxN.new (w1.alloc (.cells #[.int .u8 (c.A : Int), .int .u8 (c.X : Int), .int .u8 (c.Y : Int), .int .u8 (c.S : Int), .int .u16 (c.PC : Int), .bool c.N, .bool c.V, .bool c.D, .bool c.I, .bool c.Z, .bool c.C] 28)) 30 #[.slice a1 L.length c1]
  rw [World.size_alloc] at y17
  have a18 := alw (w1.alloc (.cells #[.int .u8 (c.A : Int), .int .u8 (c.X : Int), .int .u8 (c.Y : Int), .int .u8 (c.S : Int), .int .u16 (c.PC : Int), .bool c.N, .bool c.V, .bool c.D, .bool c.I, .bool c.Z, .bool c.C] 28)) (.cells #[.slice a1 L.length c1] 30)
  have z19 : Hid (((w1.alloc (.cells #[.int .u8 (c.A : Int), .int .u8 (c.X : Int), .int .u8 (c.Y : Int), .int .u8 (c.S : Int), .int .u16 (c.PC : Int), .bool c.N, .bool c.V, .bool c.D, .bool c.I, .bool c.Z, .bool c.C] 28)).alloc (.cells #[.slice a1 L.length c1] 30)).heap.size = (w1.alloc (.cells #[.int .u8 (c.A : Int), .int .u8 (c.X : Int), .int .u8 (c.Y : Int), .int .u8 (c.S : Int), .int .u16 (c.PC : Int), .bool c.N, .bool c.V, .bool c.D, .bool c.I, .bool c.Z, .bool c.C] 28)).heap.size + 1) := Lib.hid (World.size_alloc _ _)
  have G20 := grown_trans G12 (grown_of_below a18)
  have D21 := D13.below a18
  have p22 := p14.below a18
  have p23 := y9.below a18
  have p24 := p15.below a18
  have z25 := Lib.hid a18.size
  clear G12 D13 p14 y9 p15 a10
  clear a18
  replace p22 := Lib.hid p22
  replace p23 := Lib.hid p23
  replace y17 := Lib.hid y17
  replace p24 := Lib.hid p24
  replace G20 := Lib.hid G20
  replace D21 := Lib.hid D21
  go_wp2_with fail
  replace p22 := p22.out
  replace p23 := p23.out
  replace y17 := y17.out
  replace p24 := p24.out
  replace G20 := G20.out
  replace D21 := D21.out
  have u26 := Lib.hid (And.intro u6.out (And.intro z7.out (And.intro z11.out (And.intro z16.out (And.intro z19.out z25.out)))))
  go_cut [7] from 15 to 19 (fun v W => ∃ E s2 lo hi t1 t2 t3 t4 k1 k2 k3 k4 P, v = .pointer (some ⟨P, 0, none⟩) ∧ BoxN W P 35 (shotCells (shownN c L E 12).int.cpu (.slice t1 (shownN c L E 12).int.mem.length k1) (.slice t2 (shownN c L E 12).int.trace.length k2) (.slice t3 (shownN c L E 12).int.starts.length k3) (.slice t4 (shownN c L E 12).int.cpus.length k4) (shownN c L E 12).int.jam) ∧ ShotOwn W lo hi (.slice t1 (shownN c L E 12).int.mem.length k1) (.slice t2 (shownN c L E 12).int.trace.length k2) (.slice t3 (shownN c L E 12).int.starts.length k3) (.slice t4 (shownN c L E 12).int.cpus.length k4) (shownN c L E 12).int ∧ Drawn n₀ (w.heap.size + 1) a len cap z s2 W ∧ (((w1.alloc (.cells #[.int .u8 (c.A : Int), .int .u8 (c.X : Int), .int .u8 (c.Y : Int), .int .u8 (c.S : Int), .int .u16 (c.PC : Int), .bool c.N, .bool c.V, .bool c.D, .bool c.I, .bool c.Z, .bool c.C] 28)).alloc (.cells #[.slice a1 L.length c1] 30)).heap.size ≤ lo ∧ lo ≤ hi ∧ hi ≤ W.heap.size ∧ ((w1.alloc (.cells #[.int .u8 (c.A : Int), .int .u8 (c.X : Int), .int .u8 (c.Y : Int), .int .u8 (c.S : Int), .int .u16 (c.PC : Int), .bool c.N, .bool c.V, .bool c.D, .bool c.I, .bool c.Z, .bool c.C] 28)).alloc (.cells #[.slice a1 L.length c1] 30)).heap.size ≤ P ∧ (P + 1 ≤ lo ∨ hi ≤ P) ∧ P < W.heap.size ∧ E.length ≤ 3) ∧ Span (w.heap.size + 1) ((w.heap.size + 1) + 1) ((w1.alloc (.cells #[.int .u8 (c.A : Int), .int .u8 (c.X : Int), .int .u8 (c.Y : Int), .int .u8 (c.S : Int), .int .u16 (c.PC : Int), .bool c.N, .bool c.V, .bool c.D, .bool c.I, .bool c.Z, .bool c.C] 28)).alloc (.cells #[.slice a1 L.length c1] 30)) W)
  case first =>
    rename_i J K' hJ hK
    refine unitsReg3 c a1 c1 L (w.heap.size + 1) w1.heap.size (w1.heap.size + 1) _ _ n₀ a len cap z _ ((w1.alloc (.cells #[.int .u8 (c.A : Int), .int .u8 (c.X : Int), .int .u8 (c.Y : Int), .int .u8 (c.S : Int), .int .u16 (c.PC : Int), .bool c.N, .bool c.V, .bool c.D, .bool c.I, .bool c.Z, .bool c.C] 28)).alloc (.cells #[.slice a1 L.length c1] 30)) (fun E ae ce W h0 h1 h2 => specRun_any c a1 c1 L ae ce E 12 W hc.out (by have := hL.out; omega) (by omega) h1 h2) p23 y17 p24 D21 (by have := u26.out; omega) (by have := u26.out; omega) (by have := u26.out; omega) (by have := u26.out; omega) _ rfl rfl rfl rfl _ ?_ _ (by kernel_rfl) _
    intro a' W hf ht
    obtain ⟨x0, x1, x2, x3, x4, x5, x6, x7, x8, x9, x10, x11, x12, e9, ht⟩ := ht
    exact hK _ _ (Met.intro (hJ _ _ ⟨a'.eval (.tmp 7), a'.eval (.tmp 15), a'.eval (.tmp 16), a'.eval (.tmp 17), a'.eval (.tmp 18), a'.eval (.tmp 19), ⟨x0, x1, x2, x3, x4, x5, x6, x7, x8, x9, x10, x11, x12, e9, ht⟩, hf.eq.trans (by kernel_rfl)⟩))
  obtain ⟨E, s2, lo, hi, t1, t2, t3, t4, k1, k2, k3, k4, P, rfl, pS, oS, dS, ar, sp⟩ := hcut
  have g3 := sp.grown1
  have HRO := runOf c L E
  obtain ⟨r, hr⟩ : ∃ r, (shownN c L E 12).int = r := ⟨_, rfl⟩
  rw [hr] at pS oS HRO
  clear hr sp
  replace ar := Lib.hid ar
  replace HRO := Lib.hid HRO
  obtain ⟨w4, hw4⟩ : ∃ W, W = wc := ⟨_, rfl⟩
  subst hw4
  have G27 := grown_trans G20 g3
  have u29 := Lib.hid (And.intro u26.out ar.out)
  have p28 := p22.grown g3 (by have := u29.out; omega)
  have z30 := Lib.hid g3.size
  clear G20 D21 p22 p23 y17 p24
  replace oS := Lib.hid oS
  clear g3
  replace p28 := Lib.hid p28
  replace pS := Lib.hid pS
  replace G27 := Lib.hid G27
  replace dS := Lib.hid dS
  go_wp2_with fail
  replace p28 := p28.out
  replace pS := pS.out
  replace G27 := G27.out
  replace dS := dS.out
  have u31 := Lib.hid (And.intro u29.out z30.out)
  go_cut [3] from 20 to 27 (fun v W => ∃ s0 s2, v = .int .i64 (belowV z len s0 ((r.trace.length : Int) + 3) - 1) ∧ BoxN W w.heap.size 35 (shotCells r.cpu (.slice t1 r.mem.length k1) (.slice t2 r.trace.length k2) (.slice t3 r.starts.length k3) (.slice t4 r.cpus.length k4) r.jam) ∧ Drawn n₀ (w.heap.size + 1) a len cap z s2 W ∧ Span w.heap.size ((w.heap.size + 1) + 1) w4 W)
  case first =>
    rename_i J K' hJ hK
    refine unitsReg4 r t2 k2 (.slice t1 r.mem.length k1) (.slice t3 r.starts.length k3) (.slice t4 r.cpus.length k4) w.heap.size (w.heap.size + 1) P n₀ a len cap z _ w4 (by have := HRO.out.1; omega) ⟨_, _, _, rfl⟩ ⟨_, _, _, rfl⟩ ⟨_, _, _, rfl⟩ pS p28 rfl dS rfl HN.out (by have := u31.out; omega) _ rfl rfl rfl rfl _ ?_ _ (by kernel_rfl) _
    intro a' W hf ht
    obtain ⟨x0, e9, ht⟩ := ht
    exact hK _ _ (Met.intro (hJ _ _ ⟨a'.eval (.tmp 3), a'.eval (.tmp 20), a'.eval (.tmp 21), a'.eval (.tmp 22), a'.eval (.tmp 23), a'.eval (.tmp 24), a'.eval (.tmp 25), a'.eval (.tmp 26), a'.eval (.tmp 27), ⟨_, x0, e9, ht⟩, hf.eq.trans (by kernel_rfl)⟩))
  obtain ⟨s0, s9, rfl, yW, dW, sp⟩ := hcut
  obtain ⟨q0, q1⟩ := belowV_bound z len s0 ((r.trace.length : Int) + 3) (by omega)
  have HB : Hid (Below w.heap.size w wc) := Lib.hid ((HD.out.trans (grown_below G27 (by omega) (by have := u31.out; omega))).trans (sp.below (Nat.le_refl _) (by have := u31.out; omega)))
  have HO : Hid (ShotOwn wc lo hi (.slice t1 r.mem.length k1) (.slice t2 r.trace.length k2) (.slice t3 r.starts.length k3) (.slice t4 r.cpus.length k4) r) := Lib.hid (oS.out.span sp (by have := u31.out; omega))
  have HLO : Hid (w.heap.size ≤ lo) := Lib.hid (by have := u31.out; omega)
  have c0 := yW.cell 0 _ rfl
  have c1 := yW.cell 1 _ rfl
  have c2 := yW.cell 2 _ rfl
  have c3 := yW.cell 3 _ rfl
  have c4 := yW.cell 4 _ rfl
  have c5 := yW.cell 5 _ rfl
  have c6 := yW.cell 6 _ rfl
  have c7 := yW.cell 7 _ rfl
  have c8 := yW.cell 8 _ rfl
  have c9 := yW.cell 9 _ rfl
  have c10 := yW.cell 10 _ rfl
  have c11 := yW.cell 11 _ rfl
  have c12 := yW.cell 12 _ rfl
  have c13 := yW.cell 13 _ rfl
  have c14 := yW.cell 14 _ rfl
  have c15 := yW.cell 15 _ rfl
  clear yW dW sp pS p28 dS oS G27
  go_wp2
  refine bodyPost_ret (v := .tuple #[shotV r.cpu (.slice t1 r.mem.length k1) (.slice t2 r.trace.length k2) (.slice t3 r.starts.length k3) (.slice t4 r.cpus.length k4) r.jam, .int .i64 (belowV z len s0 ((r.trace.length : Int) + 3) - 1)]) (by simp [results, Try.results7, go_sem, c0, c1, c2, c3, c4, c5, c6, c7, c8, c9, c10, c11, c12, c13, c14, c15]) rfl ?_
  exact ⟨r, _, _, _, _, _, lo, hi, rfl, HRO.out, by omega, by have := HRO.out.1; omega, HO.out, HLO.out, HB.out⟩

end Go.Proofs.Ytckfdbjjjgfbfaa
