/-
  Contracts over the program: the model's branch (l06Branch), what is pushed and pulled (l06Push, l06Hold).
-/
import Derived.Test.YtblchdmemhhcbaaQSStepE
import Derived.Deep.RegionHeld3
namespace Go.Proofs.Ytblchdmemhhcbaa
set_option linter.unusedVariables false
set_option linter.unusedSimpArgs false
open Go.RowKit

theorem packP_at (n v d i z c brk : Bool) {x : Nat} (hx : pkV n v brk d i z c = (x : Int)) (w : World) :
    Calls Try.prog 40 #[.agg #[.bool n, .bool v, .bool d, .bool i, .bool z, .bool c], .bool brk] w fun e w' => e = .returned (.int .u8 (x : Nat)) ∧ Below w.heap.size w w' := by
  rw [← hx]
  exact specPackP_any n v d i z c brk w

theorem flagsAt {W : World} {B : Nat} {t : TypeId} {a0 a1 a2 a3 a4 a5 a6 a7 a8 a9 a10 : Value} (h : BoxN W B t #[a0, a1, a2, a3, a4, a5, a6, a7, a8, a9, a10]) :
    W.cell? ⟨B, 5, none⟩ = some a5 ∧ W.cell? ⟨B, 6, none⟩ = some a6 ∧ W.cell? ⟨B, 7, none⟩ = some a7 ∧ W.cell? ⟨B, 8, none⟩ = some a8 ∧ W.cell? ⟨B, 9, none⟩ = some a9 ∧ W.cell? ⟨B, 10, none⟩ = some a10 :=
  ⟨h.cell 5 _ rfl, h.cell 6 _ rfl, h.cell 7 _ rfl, h.cell 8 _ rfl, h.cell 9 _ rfl, h.cell 10 _ rfl⟩

theorem stack_at (x : Int) (a : Nat) (hx : x % 256 = ((a % 256 : Nat) : Int)) (h0 : -1000 ≤ x) (h1 : x ≤ 1000) {s : Nat} (hs : stk a = s) (w : World) :
    Calls Try.prog 39 #[.int .i64 x] w fun e w' => e = .returned (.int .i64 (s : Nat)) ∧ w = w' := by
  subst hs
  exact stack_any x a hx h0 h1 w

theorem and8_quo (p e : Nat) (he : p / 256 % 256 = e) : bits .and .i64 ((p : Int) / 256) 255 = (e : Int) := by
  rw [and255_i64]
  omega

theorem Sit.drew {F : Nat → Prop} {w W : World} {k B : Nat} {b : BusN} (s : Sit F w k B W b) : Sit F w k B W.drew b := s.below (Below.refl _ _).drew

set_option maxRecDepth 100000 in
theorem push_any (F : Nat → Prop) (B : Nat) (b : BusN) (c : CpuN) (hc : c.ok) (pc : Nat) (hpc : pc < 65536) (brk : Bool) (vec : Nat) (hvec : vec < 65536) (hf : b.fit 20) (w : World) (hF : ∀ i, w.heap.size ≤ i → F i) (h : BusAt w F B b) :
    Calls Try.prog 22 #[.pointer (some ⟨B, 0, none⟩), cpuV c, .int .i64 pc, .bool brk, .int .i64 vec] w fun e w' => e = .returned (cpuV (pushN b c pc brk vec).1) ∧ BusAt w' F B (pushN b c pc brk vec).2 ∧ Turn F w w' := by
  have hc' := hc
  obtain ⟨hA, hX, hY, hS, hP⟩ := hc
  obtain ⟨x, hx⟩ : ∃ r_, (pkV c.N c.V brk c.D c.I c.Z c.C).toNat = r_ := ⟨_, rfl⟩
  have xb : x < 256 := by have := (pkV_bd c.N c.V brk c.D c.I c.Z c.C).2; omega
  obtain ⟨s0, hs0⟩ : ∃ r_, stk c.S = r_ := ⟨_, rfl⟩
  have s0b : s0 < 1000 := by subst hs0; unfold stk; omega
  obtain ⟨s1, hs1⟩ : ∃ r_, stk (c.S + 255) = r_ := ⟨_, rfl⟩
  have s1b : s1 < 1000 := by subst hs1; unfold stk; omega
  obtain ⟨s2, hs2⟩ : ∃ r_, stk (c.S + 254) = r_ := ⟨_, rfl⟩
  have s2b : s2 < 1000 := by subst hs2; unfold stk; omega
  obtain ⟨ph, hph⟩ : ∃ r_, pc / 256 % 256 = r_ := ⟨_, rfl⟩
  have phb : ph < 256 := by omega
  obtain ⟨pl, hpl⟩ : ∃ r_, pc % 256 = r_ := ⟨_, rfl⟩
  have plb : pl < 256 := by omega
  obtain ⟨b1, hb1⟩ : ∃ r_, b.put (s0) (ph) = r_ := ⟨_, rfl⟩
  have Fb1 : b1.fit 21 := by rw [← hb1]; exact hf.put
  obtain ⟨b2, hb2⟩ : ∃ r_, b1.put (s1) (pl) = r_ := ⟨_, rfl⟩
  have Fb2 : b2.fit 22 := by rw [← hb2]; exact Fb1.put
  obtain ⟨b3, hb3⟩ : ∃ r_, b2.put (s2) (x) = r_ := ⟨_, rfl⟩
  have Fb3 : b3.fit 23 := by rw [← hb3]; exact Fb2.put
  obtain ⟨z4, hz4⟩ : ∃ r_, b3.get (vec) = r_ := ⟨_, rfl⟩
  obtain ⟨b4, hb4⟩ : ∃ r_, b3.rd (vec) = r_ := ⟨_, rfl⟩
  have Fb4 : b4.fit 24 := by rw [← hb4]; exact Fb3.rd
  obtain ⟨z5, hz5⟩ : ∃ r_, b4.get (vec + 1) = r_ := ⟨_, rfl⟩
  obtain ⟨b5, hb5⟩ : ∃ r_, b4.rd (vec + 1) = r_ := ⟨_, rfl⟩
  have Fb5 : b5.fit 25 := by rw [← hb5]; exact Fb4.rd
  obtain ⟨u, hu⟩ : ∃ r_, word z4 z5 = r_ := ⟨_, rfl⟩
  obtain ⟨s3, hs3⟩ : ∃ r_, (c.S + 253) % 256 = r_ := ⟨_, rfl⟩
  have HP : pushN b c pc brk vec = ({ c with PC := u, S := s3, I := true }, b5) := by 
    have gz : b3.get vec = z4 := hz4
    have gy : b3.get (vec + 1) = z5 := by rw [← hz5, ← hb4]; rfl
    simp [pushN, hx, hs0, hs1, hs2, hph, hpl, hb1, hb2, hb3, hz4, hb4, hz5, hb5, hu, hs3, gy]
  rw [HP]
  dsimp only
  have S0 := Sit.two h hF (.cells (cpuCells c) 33) (.cells zeroCpu 33)
  have q0 : BoxN ((w.alloc (.cells (cpuCells c) 33)).alloc (.cells zeroCpu 33)) w.heap.size 33 (cpuCells c) := (BoxN.new _ _ _).below ((Below.refl _ _).alloc (Nat.le_refl _) _)
  have y0 : BoxN ((w.alloc (.cells (cpuCells c) 33)).alloc (.cells zeroCpu 33)) (w.heap.size + 1) 33 zeroCpu := by
    have := BoxN.new (w.alloc (.cells (cpuCells c) 33)) 33 zeroCpu
    rwa [World.size_alloc] at this
  have Hx := Lib.hid hx
  have Hs0 := Lib.hid hs0
  have Hs1 := Lib.hid hs1
  have Hs2 := Lib.hid hs2
  have Hph := Lib.hid hph
  have Hpl := Lib.hid hpl
  have Hb1 := Lib.hid hb1
  have Hb2 := Lib.hid hb2
  have Hb3 := Lib.hid hb3
  have Hz4 := Lib.hid hz4
  have Hb4 := Lib.hid hb4
  have Hz5 := Lib.hid hz5
  have Hb5 := Lib.hid hb5
  have Hu := Lib.hid hu
  have Hs3 := Lib.hid hs3
  clear HP hx hs0 hs1 hs2 hph hpl hb1 hb2 hb3 hz4 hb4 hz5 hb5 hu hs3
  go_enter Try.func22, Try.ntmps22
  obtain ⟨g0, g1, g2, g3, g4, g5, g6, g7, g8, g9, g10, f0⟩ := eleven q0
  go_wp2_with fail
  refine (stack_at _ c.S (by omega) (by omega) (by omega) Hs0.out _).mono ?_
  rintro e w1 ⟨rfl, rfl⟩
  have hD1 := and8_quo pc ph Hph.out
  have hD2 := and8 pc pl Hpl.out
  go_wp2_with fail
  refine (S0.wr _ _ (s0) (ph) rfl (by first | rfl | omega) (by omega) (by omega) (hf.mono (by omega)) Hb1.out).mono ?_
  rintro e w3 ⟨rfl, t2⟩
  have q4 := t2.box _ _ _ (Nat.le_refl _) (by omega) q0
  have y6 := t2.box _ _ _ (by omega) (by omega) y0
  have S5 := t2.sit
  clear g0 g1 g2 g3 g4 g5 g6 g7 g8 g9 g10 f0
  clear q0 S0 t2 y0
  obtain ⟨g0, g1, g2, g3, g4, g5, g6, g7, g8, g9, g10, f0⟩ := eleven q4
  go_wp2_with fail
  refine (stack_at _ (c.S + 255) (by omega) (by omega) (by omega) Hs1.out _).mono ?_
  rintro e w7 ⟨rfl, rfl⟩
  go_wp2_with fail
  refine (S5.wr _ _ (s1) (pl) rfl (by first | rfl | omega) (by omega) (by omega) (Fb1.mono (by omega)) Hb2.out).mono ?_
  rintro e w9 ⟨rfl, t8⟩
  have q10 := t8.box _ _ _ (Nat.le_refl _) (by omega) q4
  have y12 := t8.box _ _ _ (by omega) (by omega) y6
  have S11 := t8.sit
  clear g0 g1 g2 g3 g4 g5 g6 g7 g8 g9 g10 f0
  clear q4 S5 t8 y6
  have HX := Lib.hid (show pkV c.N c.V brk c.D c.I c.Z c.C = ((x : Nat) : Int) from by have := (pkV_bd c.N c.V brk c.D c.I c.Z c.C).1; have := Hx.out; omega)
  have hwr : IntKind.i64.wrap ((c.S : Int) - 2) = (c.S : Int) - 2 := IntWalk.i64_in _ (by omega)
  go_wp2_with fail
  go_region_held3 (fun w' => w'.cell? ⟨w.heap.size, 5, none⟩ = some (.bool c.N) ∧ w'.cell? ⟨w.heap.size, 6, none⟩ = some (.bool c.V) ∧ w'.cell? ⟨w.heap.size, 7, none⟩ = some (.bool c.D) ∧ w'.cell? ⟨w.heap.size, 8, none⟩ = some (.bool c.I) ∧ w'.cell? ⟨w.heap.size, 9, none⟩ = some (.bool c.Z) ∧ w'.cell? ⟨w.heap.size, 10, none⟩ = some (.bool c.C))
    (((try dsimp only); (first | (exact flagsAt q10) | (exact flagsAt (q10.drew.below dP)) | (exact flagsAt (tW.box _ _ _ (Nat.le_refl _) (by omega) (q10.drew.below dP))))))
    (first | (go_at_call 39; refine (stack_at _ (c.S + 254) (by omega) (by omega) (by omega) Hs2.out _).mono ?_; rintro e wS ⟨rfl, rfl⟩) | (go_at_call 40; refine (packP_at _ _ _ _ _ _ _ HX.out _).mono ?_; rintro e wP ⟨rfl, dP⟩) | (go_at_call 38; refine ((S11.drew.below dP).wr _ _ (s2) (x) rfl rfl (by omega) (by omega) (Fb2.mono (by omega)) Hb3.out).mono ?_; rintro e wW ⟨rfl, tW⟩))
  have q13 := tW.box _ _ _ (Nat.le_refl _) (by omega) (q10.drew.below dP)
  have y15 := tW.box _ _ _ (by omega) (by omega) (y12.drew.below dP)
  have S14 := tW.sit
  clear tW q10 S11 y12 dP hwr
  clear hD1 hD2
  obtain ⟨g0, g1, g2, g3, g4, g5, g6, g7, g8, g9, g10, f0⟩ := eleven q13
  go_wp2_with fail
  refine (S14.rd _ (vec) rfl (by omega) (Fb3.mono (by omega)) Hz4.out Hb4.out).mono ?_
  rintro e w17 ⟨rfl, t16⟩
  have q18 := t16.box _ _ _ (Nat.le_refl _) (by omega) q13
  have y20 := t16.box _ _ _ (by omega) (by omega) y15
  have S19 := t16.sit
  have z4b : z4 < 256 := by rw [← Hz4.out]; exact S14.bus.byte _
  clear g0 g1 g2 g3 g4 g5 g6 g7 g8 g9 g10 f0
  clear q13 S14 t16 y15
  obtain ⟨g0, g1, g2, g3, g4, g5, g6, g7, g8, g9, g10, f0⟩ := eleven q18
  go_wp2_with fail
  refine (S19.rd _ (vec + 1) (by omega) (by omega) (Fb4.mono (by omega)) Hz5.out Hb5.out).mono ?_
  rintro e w22 ⟨rfl, t21⟩
  have q23 := t21.box _ _ _ (Nat.le_refl _) (by omega) q18
  have y25 := t21.box _ _ _ (by omega) (by omega) y20
  have S24 := t21.sit
  have z5b : z5 < 256 := by rw [← Hz5.out]; exact S19.bus.byte _
  clear g0 g1 g2 g3 g4 g5 g6 g7 g8 g9 g10 f0
  clear q18 S19 t21 y20
  obtain ⟨g0, g1, g2, g3, g4, g5, g6, g7, g8, g9, g10, f0⟩ := eleven q23
  obtain ⟨h0, h1, h2, h3, h4, h5, h6, h7, h8, h9, h10, f1⟩ := eleven y25
  go_wp2_with fail
  refine (word_at z4 z5 z4b z5b Hu.out _).mono ?_
  rintro e w26 ⟨rfl, rfl⟩
  have ub : u < 65536 := by rw [← Hu.out]; unfold word; omega
  have hS3 : IntKind.u8.wrap ((c.S : Int) - 3) = ((s3 : Nat) : Int) := by rw [u8_of]; have := Hs3.out; omega
  have HS := Lib.hid S24
  clear S24 q23 y25
  go_wp2
  refine bodyPost_ret (v := cpuV ({ c with PC := u, S := s3, I := true })) (by simp [results, Try.results22, go_sem, g0, g1, g2, g3, g4, g5, g6, g7, g8, g9, g10, h0, h1, h2, h3, h4, h5, h6, h7, h8, h9, h10, hS3]) rfl ⟨rfl, ?_⟩
  refine Sit.out (k := 2) ?_
  repeat (any_goals (first | (with_reducible exact HS.out) | (with_reducible refine Sit.drew ?_) | (with_reducible refine Sit.set ?_ _ ?_ ?_)))
  all_goals (first | (with_reducible exact Nat.le_refl _) | omega | (simp; done))

end Go.Proofs.Ytblchdmemhhcbaa
