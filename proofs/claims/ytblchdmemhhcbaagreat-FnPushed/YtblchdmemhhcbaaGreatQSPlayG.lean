/-
  Contracts over the program: what a player makes of a byte (remade).
-/
import Derived.Test.YtblchdmemhhcbaaGreatQSPlayH
import Derived.Test.YtblchdmemhhcbaaGreatQSAluE
import Derived.Test.YtblchdmemhhcbaaGreatQSPlayB
import Derived.Test.YtblchdmemhhcbaaGreatQSStepA
namespace Go.Proofs.YtblchdmemhhcbaaGreat
set_option linter.unusedVariables false
set_option linter.unusedSimpArgs false
open Go.RowKit

set_option maxRecDepth 100000 in
set_option maxHeartbeats 2000000 in
theorem Play.implied_TXA {F : Nat → Prop} {w W : World} {P : Nat} {o : Option Nat} {k : OpK} {s : St} {N : Nat} (p : Play F w W P o k s N) (hk : k.nm = ⟨#[84, 88, 65]⟩) (hm : k.md = 0) (hN : N ≤ 88) {s' : St} (hs : ⟨impL s.c [84, 88, 65] 0, s.b.rd s.c.PC⟩ = s') :
    Calls Tryz.prog 108 #[.pointer (some ⟨P, 0, none⟩)] W fun e w' => e = .returned (.tuple #[]) ∧ Play F w w' P o k s' (N + 1) := by
  obtain ⟨hA, hX, hY, hS, hP⟩ := p.pl.ok
  obtain ⟨b1, hb1⟩ : ∃ r_, s.b.rd s.c.PC = r_ := ⟨_, rfl⟩
  have vb : s.c.X < 256 := by omega
  have hs' : (⟨{ s.c with A := s.c.X, N := bit7 (s.c.X : Nat), Z := isZ (s.c.X : Nat) }, b1⟩ : St) = s' := by rw [← hs, ← hb1]; simp [impL, regL, flagL, CpuN.nz]
  have Hhs' := Lib.hid hs'
  clear hs hs'
  have Hb1 := Lib.hid hb1
  clear hb1
  go_enter Tryz.func108, Tryz.ntmps108
  go_wp2_with fail
  refine (p.idle (by omega) (s' := ⟨s.c, b1⟩) (by rw [← Hb1.out]; rfl)).mono ?_
  rintro e w1 ⟨rfl, p2⟩
  obtain ⟨g0, g1, g2, g3, g4, g5, g6, g7, g8, g9, g10, g11, g12, g13, g15, gf⟩ := p2.cells
  rw [hk] at g12
  rw [hm] at g13
  go_wp2_with fail
  refine (p2.moved_TXA hk).mono ?_
  rintro e w3 ⟨rfl, rfl⟩
  go_wp2_with fail
  have p4 := p2.setA _ (s.c.X) rfl vb rfl
  clear g0 g1 g2 g3 g4 g5 g6 g7 g8 g9 g10 g11 g12 g13 g15 gf
  clear p2
  generalize w1.setCell ⟨P, 0, none⟩ (.int .u8 ((s.c.X : Nat) : Int)) = W5 at p4 ⊢
  obtain ⟨g0, g1, g2, g3, g4, g5, g6, g7, g8, g9, g10, g11, g12, g13, g15, gf⟩ := p4.cells
  rw [hk] at g12
  go_wp2_with fail
  clear g0 g1 g2 g3 g4 g5 g6 g7 g8 g9 g10 g11 g12 g13 g15 gf
  go_wp2_with fail
  have p6 := p4.drew
  have g0 := p6.cells.1
  have g5 := p6.cells.2.2.2.2.2.1
  have g6 := p6.cells.2.2.2.2.2.2.1
  have g7 := p6.cells.2.2.2.2.2.2.2.1
  have g8 := p6.cells.2.2.2.2.2.2.2.2.1
  have g9 := p6.cells.2.2.2.2.2.2.2.2.2.1
  have g10 := p6.cells.2.2.2.2.2.2.2.2.2.2.1
  have gf := p6.cells.2.2.2.2.2.2.2.2.2.2.2.2.2.2.2
  go_region_with (go_at_call 139; refine (implNZ_any _ _ _ _ _ _ _ _ (by omega) (by omega)).mono ?_; rintro e w7 ⟨rfl, d8⟩; (have p9 := p6.below d8); clear g0 g5 g6 g7 g8 g9 g10 gf; (have g0 := p9.cells.1); (have g5 := p9.cells.2.2.2.2.2.1); (have g6 := p9.cells.2.2.2.2.2.2.1); (have g7 := p9.cells.2.2.2.2.2.2.2.1); (have g8 := p9.cells.2.2.2.2.2.2.2.2.1); (have g9 := p9.cells.2.2.2.2.2.2.2.2.2.1); (have g10 := p9.cells.2.2.2.2.2.2.2.2.2.2.1); (have gf := p9.cells.2.2.2.2.2.2.2.2.2.2.2.2.2.2.2))
  all_goals
    go_wp2
    (try simp only [Exit.inBlock, Exit.then])
    first | refine bodyPost_ret (results_none rfl _ _ _) rfl ?_ | refine bodyPost_end (results_none rfl _ _ _) rfl ?_
    refine ⟨rfl, ?_⟩
    exact p9.flags _ _ _ _ _ _ Hhs'.out

set_option maxRecDepth 100000 in
set_option maxHeartbeats 2000000 in
theorem Play.implied_TAX {F : Nat → Prop} {w W : World} {P : Nat} {o : Option Nat} {k : OpK} {s : St} {N : Nat} (p : Play F w W P o k s N) (hk : k.nm = ⟨#[84, 65, 88]⟩) (hm : k.md = 0) (hN : N ≤ 88) {s' : St} (hs : ⟨impL s.c [84, 65, 88] 0, s.b.rd s.c.PC⟩ = s') :
    Calls Tryz.prog 108 #[.pointer (some ⟨P, 0, none⟩)] W fun e w' => e = .returned (.tuple #[]) ∧ Play F w w' P o k s' (N + 1) := by
  obtain ⟨hA, hX, hY, hS, hP⟩ := p.pl.ok
  obtain ⟨b1, hb1⟩ : ∃ r_, s.b.rd s.c.PC = r_ := ⟨_, rfl⟩
  have vb : s.c.A < 256 := by omega
  have hs' : (⟨{ s.c with X := s.c.A, N := bit7 (s.c.A : Nat), Z := isZ (s.c.A : Nat) }, b1⟩ : St) = s' := by rw [← hs, ← hb1]; simp [impL, regL, flagL, CpuN.nz]
  have Hhs' := Lib.hid hs'
  clear hs hs'
  have Hb1 := Lib.hid hb1
  clear hb1
  go_enter Tryz.func108, Tryz.ntmps108
  go_wp2_with fail
  refine (p.idle (by omega) (s' := ⟨s.c, b1⟩) (by rw [← Hb1.out]; rfl)).mono ?_
  rintro e w1 ⟨rfl, p2⟩
  obtain ⟨g0, g1, g2, g3, g4, g5, g6, g7, g8, g9, g10, g11, g12, g13, g15, gf⟩ := p2.cells
  rw [hk] at g12
  rw [hm] at g13
  go_wp2_with fail
  refine (p2.moved_TAX hk).mono ?_
  rintro e w3 ⟨rfl, rfl⟩
  go_wp2_with fail
  have p4 := p2.setX _ (s.c.A) rfl vb rfl
  clear g0 g1 g2 g3 g4 g5 g6 g7 g8 g9 g10 g11 g12 g13 g15 gf
  clear p2
  generalize w1.setCell ⟨P, 1, none⟩ (.int .u8 ((s.c.A : Nat) : Int)) = W5 at p4 ⊢
  obtain ⟨g0, g1, g2, g3, g4, g5, g6, g7, g8, g9, g10, g11, g12, g13, g15, gf⟩ := p4.cells
  rw [hk] at g12
  go_wp2_with fail
  clear g0 g1 g2 g3 g4 g5 g6 g7 g8 g9 g10 g11 g12 g13 g15 gf
  go_wp2_with fail
  have p6 := p4.drew
  have g1 := p6.cells.2.1
  have g5 := p6.cells.2.2.2.2.2.1
  have g6 := p6.cells.2.2.2.2.2.2.1
  have g7 := p6.cells.2.2.2.2.2.2.2.1
  have g8 := p6.cells.2.2.2.2.2.2.2.2.1
  have g9 := p6.cells.2.2.2.2.2.2.2.2.2.1
  have g10 := p6.cells.2.2.2.2.2.2.2.2.2.2.1
  have gf := p6.cells.2.2.2.2.2.2.2.2.2.2.2.2.2.2.2
  go_region_with (go_at_call 139; refine (implNZ_any _ _ _ _ _ _ _ _ (by omega) (by omega)).mono ?_; rintro e w7 ⟨rfl, d8⟩; (have p9 := p6.below d8); clear g1 g5 g6 g7 g8 g9 g10 gf; (have g1 := p9.cells.2.1); (have g5 := p9.cells.2.2.2.2.2.1); (have g6 := p9.cells.2.2.2.2.2.2.1); (have g7 := p9.cells.2.2.2.2.2.2.2.1); (have g8 := p9.cells.2.2.2.2.2.2.2.2.1); (have g9 := p9.cells.2.2.2.2.2.2.2.2.2.1); (have g10 := p9.cells.2.2.2.2.2.2.2.2.2.2.1); (have gf := p9.cells.2.2.2.2.2.2.2.2.2.2.2.2.2.2.2))
  all_goals
    go_wp2
    (try simp only [Exit.inBlock, Exit.then])
    first | refine bodyPost_ret (results_none rfl _ _ _) rfl ?_ | refine bodyPost_end (results_none rfl _ _ _) rfl ?_
    refine ⟨rfl, ?_⟩
    exact p9.flags _ _ _ _ _ _ Hhs'.out

set_option maxRecDepth 100000 in
set_option maxHeartbeats 2000000 in
theorem Play.implied_DEX {F : Nat → Prop} {w W : World} {P : Nat} {o : Option Nat} {k : OpK} {s : St} {N : Nat} (p : Play F w W P o k s N) (hk : k.nm = ⟨#[68, 69, 88]⟩) (hm : k.md = 0) (hN : N ≤ 88) {s' : St} (hs : ⟨impL s.c [68, 69, 88] 0, s.b.rd s.c.PC⟩ = s') :
    Calls Tryz.prog 108 #[.pointer (some ⟨P, 0, none⟩)] W fun e w' => e = .returned (.tuple #[]) ∧ Play F w w' P o k s' (N + 1) := by
  obtain ⟨hA, hX, hY, hS, hP⟩ := p.pl.ok
  obtain ⟨b1, hb1⟩ : ∃ r_, s.b.rd s.c.PC = r_ := ⟨_, rfl⟩
  obtain ⟨v, hv⟩ : ∃ r_, (s.c.X + 255) % 256 = r_ := ⟨_, rfl⟩
  have vb : v < 256 := by omega
  have hs' : (⟨{ s.c with X := v, N := bit7 (v : Nat), Z := isZ (v : Nat) }, b1⟩ : St) = s' := by rw [← hs, ← hb1]; simp [impL, regL, flagL, CpuN.nz, hv]
  have Hhs' := Lib.hid hs'
  clear hs hs'
  have Hb1 := Lib.hid hb1
  have Hv := Lib.hid hv
  clear hb1 hv
  go_enter Tryz.func108, Tryz.ntmps108
  go_wp2_with fail
  refine (p.idle (by omega) (s' := ⟨s.c, b1⟩) (by rw [← Hb1.out]; rfl)).mono ?_
  rintro e w1 ⟨rfl, p2⟩
  obtain ⟨g0, g1, g2, g3, g4, g5, g6, g7, g8, g9, g10, g11, g12, g13, g15, gf⟩ := p2.cells
  rw [hk] at g12
  rw [hm] at g13
  go_wp2_with fail
  refine (p2.moved_DEX hk).mono ?_
  rintro e w3 ⟨rfl, rfl⟩
  dsimp only
  rw [Hv.out]
  go_wp2_with fail
  have p4 := p2.setX _ (v) rfl vb rfl
  clear g0 g1 g2 g3 g4 g5 g6 g7 g8 g9 g10 g11 g12 g13 g15 gf
  clear p2
  generalize w1.setCell ⟨P, 1, none⟩ (.int .u8 ((v : Nat) : Int)) = W5 at p4 ⊢
  obtain ⟨g0, g1, g2, g3, g4, g5, g6, g7, g8, g9, g10, g11, g12, g13, g15, gf⟩ := p4.cells
  rw [hk] at g12
  go_wp2_with fail
  clear g0 g1 g2 g3 g4 g5 g6 g7 g8 g9 g10 g11 g12 g13 g15 gf
  go_wp2_with fail
  have p6 := p4.drew
  have g1 := p6.cells.2.1
  have g5 := p6.cells.2.2.2.2.2.1
  have g6 := p6.cells.2.2.2.2.2.2.1
  have g7 := p6.cells.2.2.2.2.2.2.2.1
  have g8 := p6.cells.2.2.2.2.2.2.2.2.1
  have g9 := p6.cells.2.2.2.2.2.2.2.2.2.1
  have g10 := p6.cells.2.2.2.2.2.2.2.2.2.2.1
  have gf := p6.cells.2.2.2.2.2.2.2.2.2.2.2.2.2.2.2
  go_region_with (go_at_call 139; refine (implNZ_any _ _ _ _ _ _ _ _ (by omega) (by omega)).mono ?_; rintro e w7 ⟨rfl, d8⟩; (have p9 := p6.below d8); clear g1 g5 g6 g7 g8 g9 g10 gf; (have g1 := p9.cells.2.1); (have g5 := p9.cells.2.2.2.2.2.1); (have g6 := p9.cells.2.2.2.2.2.2.1); (have g7 := p9.cells.2.2.2.2.2.2.2.1); (have g8 := p9.cells.2.2.2.2.2.2.2.2.1); (have g9 := p9.cells.2.2.2.2.2.2.2.2.2.1); (have g10 := p9.cells.2.2.2.2.2.2.2.2.2.2.1); (have gf := p9.cells.2.2.2.2.2.2.2.2.2.2.2.2.2.2.2))
  all_goals
    go_wp2
    (try simp only [Exit.inBlock, Exit.then])
    first | refine bodyPost_ret (results_none rfl _ _ _) rfl ?_ | refine bodyPost_end (results_none rfl _ _ _) rfl ?_
    refine ⟨rfl, ?_⟩
    exact p9.flags _ _ _ _ _ _ Hhs'.out

set_option maxRecDepth 100000 in
set_option maxHeartbeats 2000000 in
theorem Play.implied_NOP {F : Nat → Prop} {w W : World} {P : Nat} {o : Option Nat} {k : OpK} {s : St} {N : Nat} (p : Play F w W P o k s N) (hk : k.nm = ⟨#[78, 79, 80]⟩) (hm : k.md = 0) (hN : N ≤ 88) {s' : St} (hs : ⟨impL s.c [78, 79, 80] 0, s.b.rd s.c.PC⟩ = s') :
    Calls Tryz.prog 108 #[.pointer (some ⟨P, 0, none⟩)] W fun e w' => e = .returned (.tuple #[]) ∧ Play F w w' P o k s' (N + 1) := by
  obtain ⟨hA, hX, hY, hS, hP⟩ := p.pl.ok
  obtain ⟨b1, hb1⟩ : ∃ r_, s.b.rd s.c.PC = r_ := ⟨_, rfl⟩
  have hs' : (⟨flagL s.c [78, 79, 80], b1⟩ : St) = s' := by rw [← hs, ← hb1]; simp [impL, regL]
  have Hhs' := Lib.hid hs'
  clear hs hs'
  have Hb1 := Lib.hid hb1
  clear hb1
  go_enter Tryz.func108, Tryz.ntmps108
  go_wp2_with fail
  refine (p.idle (by omega) (s' := ⟨s.c, b1⟩) (by rw [← Hb1.out]; rfl)).mono ?_
  rintro e w1 ⟨rfl, p2⟩
  obtain ⟨g0, g1, g2, g3, g4, g5, g6, g7, g8, g9, g10, g11, g12, g13, g15, gf⟩ := p2.cells
  rw [hk] at g12
  rw [hm] at g13
  go_wp2_with fail
  refine (p2.turnFlag_NOP hk (by omega) Hhs'.out).mono ?_
  rintro e w3 ⟨rfl, p4⟩
  clear g0 g1 g2 g3 g4 g5 g6 g7 g8 g9 g10 g11 g12 g13 g15 gf
  clear p2
  go_wp2
  (try simp only [Exit.inBlock, Exit.then])
  first | refine bodyPost_ret (results_none rfl _ _ _) rfl ?_ | refine bodyPost_end (results_none rfl _ _ _) rfl ?_
  refine ⟨rfl, ?_⟩
  exact p4

set_option maxRecDepth 100000 in
set_option maxHeartbeats 2000000 in
theorem Play.implied_TXS {F : Nat → Prop} {w W : World} {P : Nat} {o : Option Nat} {k : OpK} {s : St} {N : Nat} (p : Play F w W P o k s N) (hk : k.nm = ⟨#[84, 88, 83]⟩) (hm : k.md = 0) (hN : N ≤ 88) {s' : St} (hs : ⟨impL s.c [84, 88, 83] 0, s.b.rd s.c.PC⟩ = s') :
    Calls Tryz.prog 108 #[.pointer (some ⟨P, 0, none⟩)] W fun e w' => e = .returned (.tuple #[]) ∧ Play F w w' P o k s' (N + 1) := by
  obtain ⟨hA, hX, hY, hS, hP⟩ := p.pl.ok
  obtain ⟨b1, hb1⟩ : ∃ r_, s.b.rd s.c.PC = r_ := ⟨_, rfl⟩
  have vb : s.c.X < 256 := by omega
  have hs' : (⟨{ s.c with S := s.c.X }, b1⟩ : St) = s' := by rw [← hs, ← hb1]; simp [impL, regL, flagL, CpuN.nz]
  have Hhs' := Lib.hid hs'
  clear hs hs'
  have Hb1 := Lib.hid hb1
  clear hb1
  go_enter Tryz.func108, Tryz.ntmps108
  go_wp2_with fail
  refine (p.idle (by omega) (s' := ⟨s.c, b1⟩) (by rw [← Hb1.out]; rfl)).mono ?_
  rintro e w1 ⟨rfl, p2⟩
  obtain ⟨g0, g1, g2, g3, g4, g5, g6, g7, g8, g9, g10, g11, g12, g13, g15, gf⟩ := p2.cells
  rw [hk] at g12
  rw [hm] at g13
  go_wp2_with fail
  refine (p2.moved_TXS hk).mono ?_
  rintro e w3 ⟨rfl, rfl⟩
  go_wp2_with fail
  have p4 := p2.setS _ (s.c.X) rfl vb rfl
  clear g0 g1 g2 g3 g4 g5 g6 g7 g8 g9 g10 g11 g12 g13 g15 gf
  clear p2
  generalize w1.setCell ⟨P, 3, none⟩ (.int .u8 ((s.c.X : Nat) : Int)) = W5 at p4 ⊢
  go_wp2
  (try simp only [Exit.inBlock, Exit.then])
  first | refine bodyPost_ret (results_none rfl _ _ _) rfl ?_ | refine bodyPost_end (results_none rfl _ _ _) rfl ?_
  refine ⟨rfl, ?_⟩
  exact (by rw [← Hhs'.out]; exact p4)

set_option maxRecDepth 100000 in
set_option maxHeartbeats 2000000 in
theorem Play.implied_TSX {F : Nat → Prop} {w W : World} {P : Nat} {o : Option Nat} {k : OpK} {s : St} {N : Nat} (p : Play F w W P o k s N) (hk : k.nm = ⟨#[84, 83, 88]⟩) (hm : k.md = 0) (hN : N ≤ 88) {s' : St} (hs : ⟨impL s.c [84, 83, 88] 0, s.b.rd s.c.PC⟩ = s') :
    Calls Tryz.prog 108 #[.pointer (some ⟨P, 0, none⟩)] W fun e w' => e = .returned (.tuple #[]) ∧ Play F w w' P o k s' (N + 1) := by
  obtain ⟨hA, hX, hY, hS, hP⟩ := p.pl.ok
  obtain ⟨b1, hb1⟩ : ∃ r_, s.b.rd s.c.PC = r_ := ⟨_, rfl⟩
  have vb : s.c.S < 256 := by omega
  have hs' : (⟨{ s.c with X := s.c.S, N := bit7 (s.c.S : Nat), Z := isZ (s.c.S : Nat) }, b1⟩ : St) = s' := by rw [← hs, ← hb1]; simp [impL, regL, flagL, CpuN.nz]
  have Hhs' := Lib.hid hs'
  clear hs hs'
  have Hb1 := Lib.hid hb1
  clear hb1
  go_enter Tryz.func108, Tryz.ntmps108
  go_wp2_with fail
  refine (p.idle (by omega) (s' := ⟨s.c, b1⟩) (by rw [← Hb1.out]; rfl)).mono ?_
  rintro e w1 ⟨rfl, p2⟩
  obtain ⟨g0, g1, g2, g3, g4, g5, g6, g7, g8, g9, g10, g11, g12, g13, g15, gf⟩ := p2.cells
  rw [hk] at g12
  rw [hm] at g13
  go_wp2_with fail
  refine (p2.moved_TSX hk).mono ?_
  rintro e w3 ⟨rfl, rfl⟩
  go_wp2_with fail
  have p4 := p2.setX _ (s.c.S) rfl vb rfl
  clear g0 g1 g2 g3 g4 g5 g6 g7 g8 g9 g10 g11 g12 g13 g15 gf
  clear p2
  generalize w1.setCell ⟨P, 1, none⟩ (.int .u8 ((s.c.S : Nat) : Int)) = W5 at p4 ⊢
  obtain ⟨g0, g1, g2, g3, g4, g5, g6, g7, g8, g9, g10, g11, g12, g13, g15, gf⟩ := p4.cells
  rw [hk] at g12
  go_wp2_with fail
  clear g0 g1 g2 g3 g4 g5 g6 g7 g8 g9 g10 g11 g12 g13 g15 gf
  go_wp2_with fail
  have p6 := p4.drew
  have g1 := p6.cells.2.1
  have g5 := p6.cells.2.2.2.2.2.1
  have g6 := p6.cells.2.2.2.2.2.2.1
  have g7 := p6.cells.2.2.2.2.2.2.2.1
  have g8 := p6.cells.2.2.2.2.2.2.2.2.1
  have g9 := p6.cells.2.2.2.2.2.2.2.2.2.1
  have g10 := p6.cells.2.2.2.2.2.2.2.2.2.2.1
  have gf := p6.cells.2.2.2.2.2.2.2.2.2.2.2.2.2.2.2
  go_region_with (go_at_call 139; refine (implNZ_any _ _ _ _ _ _ _ _ (by omega) (by omega)).mono ?_; rintro e w7 ⟨rfl, d8⟩; (have p9 := p6.below d8); clear g1 g5 g6 g7 g8 g9 g10 gf; (have g1 := p9.cells.2.1); (have g5 := p9.cells.2.2.2.2.2.1); (have g6 := p9.cells.2.2.2.2.2.2.1); (have g7 := p9.cells.2.2.2.2.2.2.2.1); (have g8 := p9.cells.2.2.2.2.2.2.2.2.1); (have g9 := p9.cells.2.2.2.2.2.2.2.2.2.1); (have g10 := p9.cells.2.2.2.2.2.2.2.2.2.2.1); (have gf := p9.cells.2.2.2.2.2.2.2.2.2.2.2.2.2.2.2))
  all_goals
    go_wp2
    (try simp only [Exit.inBlock, Exit.then])
    first | refine bodyPost_ret (results_none rfl _ _ _) rfl ?_ | refine bodyPost_end (results_none rfl _ _ _) rfl ?_
    refine ⟨rfl, ?_⟩
    exact p9.flags _ _ _ _ _ _ Hhs'.out

set_option maxRecDepth 100000 in
set_option maxHeartbeats 2000000 in
theorem Play.implied_DEY {F : Nat → Prop} {w W : World} {P : Nat} {o : Option Nat} {k : OpK} {s : St} {N : Nat} (p : Play F w W P o k s N) (hk : k.nm = ⟨#[68, 69, 89]⟩) (hm : k.md = 0) (hN : N ≤ 88) {s' : St} (hs : ⟨impL s.c [68, 69, 89] 0, s.b.rd s.c.PC⟩ = s') :
    Calls Tryz.prog 108 #[.pointer (some ⟨P, 0, none⟩)] W fun e w' => e = .returned (.tuple #[]) ∧ Play F w w' P o k s' (N + 1) := by
  obtain ⟨hA, hX, hY, hS, hP⟩ := p.pl.ok
  obtain ⟨b1, hb1⟩ : ∃ r_, s.b.rd s.c.PC = r_ := ⟨_, rfl⟩
  obtain ⟨v, hv⟩ : ∃ r_, (s.c.Y + 255) % 256 = r_ := ⟨_, rfl⟩
  have vb : v < 256 := by omega
  have hs' : (⟨{ s.c with Y := v, N := bit7 (v : Nat), Z := isZ (v : Nat) }, b1⟩ : St) = s' := by rw [← hs, ← hb1]; simp [impL, regL, flagL, CpuN.nz, hv]
  have Hhs' := Lib.hid hs'
  clear hs hs'
  have Hb1 := Lib.hid hb1
  have Hv := Lib.hid hv
  clear hb1 hv
  go_enter Tryz.func108, Tryz.ntmps108
  go_wp2_with fail
  refine (p.idle (by omega) (s' := ⟨s.c, b1⟩) (by rw [← Hb1.out]; rfl)).mono ?_
  rintro e w1 ⟨rfl, p2⟩
  obtain ⟨g0, g1, g2, g3, g4, g5, g6, g7, g8, g9, g10, g11, g12, g13, g15, gf⟩ := p2.cells
  rw [hk] at g12
  rw [hm] at g13
  go_wp2_with fail
  refine (p2.moved_DEY hk).mono ?_
  rintro e w3 ⟨rfl, rfl⟩
  dsimp only
  rw [Hv.out]
  go_wp2_with fail
  have p4 := p2.setY _ (v) rfl vb rfl
  clear g0 g1 g2 g3 g4 g5 g6 g7 g8 g9 g10 g11 g12 g13 g15 gf
  clear p2
  generalize w1.setCell ⟨P, 2, none⟩ (.int .u8 ((v : Nat) : Int)) = W5 at p4 ⊢
  obtain ⟨g0, g1, g2, g3, g4, g5, g6, g7, g8, g9, g10, g11, g12, g13, g15, gf⟩ := p4.cells
  rw [hk] at g12
  go_wp2_with fail
  clear g0 g1 g2 g3 g4 g5 g6 g7 g8 g9 g10 g11 g12 g13 g15 gf
  go_wp2_with fail
  have p6 := p4.drew
  have g2 := p6.cells.2.2.1
  have g5 := p6.cells.2.2.2.2.2.1
  have g6 := p6.cells.2.2.2.2.2.2.1
  have g7 := p6.cells.2.2.2.2.2.2.2.1
  have g8 := p6.cells.2.2.2.2.2.2.2.2.1
  have g9 := p6.cells.2.2.2.2.2.2.2.2.2.1
  have g10 := p6.cells.2.2.2.2.2.2.2.2.2.2.1
  have gf := p6.cells.2.2.2.2.2.2.2.2.2.2.2.2.2.2.2
  go_region_with (go_at_call 139; refine (implNZ_any _ _ _ _ _ _ _ _ (by omega) (by omega)).mono ?_; rintro e w7 ⟨rfl, d8⟩; (have p9 := p6.below d8); clear g2 g5 g6 g7 g8 g9 g10 gf; (have g2 := p9.cells.2.2.1); (have g5 := p9.cells.2.2.2.2.2.1); (have g6 := p9.cells.2.2.2.2.2.2.1); (have g7 := p9.cells.2.2.2.2.2.2.2.1); (have g8 := p9.cells.2.2.2.2.2.2.2.2.1); (have g9 := p9.cells.2.2.2.2.2.2.2.2.2.1); (have g10 := p9.cells.2.2.2.2.2.2.2.2.2.2.1); (have gf := p9.cells.2.2.2.2.2.2.2.2.2.2.2.2.2.2.2))
  all_goals
    go_wp2
    (try simp only [Exit.inBlock, Exit.then])
    first | refine bodyPost_ret (results_none rfl _ _ _) rfl ?_ | refine bodyPost_end (results_none rfl _ _ _) rfl ?_
    refine ⟨rfl, ?_⟩
    exact p9.flags _ _ _ _ _ _ Hhs'.out

set_option maxRecDepth 100000 in
set_option maxHeartbeats 2000000 in
theorem Play.implied_TAY {F : Nat → Prop} {w W : World} {P : Nat} {o : Option Nat} {k : OpK} {s : St} {N : Nat} (p : Play F w W P o k s N) (hk : k.nm = ⟨#[84, 65, 89]⟩) (hm : k.md = 0) (hN : N ≤ 88) {s' : St} (hs : ⟨impL s.c [84, 65, 89] 0, s.b.rd s.c.PC⟩ = s') :
    Calls Tryz.prog 108 #[.pointer (some ⟨P, 0, none⟩)] W fun e w' => e = .returned (.tuple #[]) ∧ Play F w w' P o k s' (N + 1) := by
  obtain ⟨hA, hX, hY, hS, hP⟩ := p.pl.ok
  obtain ⟨b1, hb1⟩ : ∃ r_, s.b.rd s.c.PC = r_ := ⟨_, rfl⟩
  have vb : s.c.A < 256 := by omega
  have hs' : (⟨{ s.c with Y := s.c.A, N := bit7 (s.c.A : Nat), Z := isZ (s.c.A : Nat) }, b1⟩ : St) = s' := by rw [← hs, ← hb1]; simp [impL, regL, flagL, CpuN.nz]
  have Hhs' := Lib.hid hs'
  clear hs hs'
  have Hb1 := Lib.hid hb1
  clear hb1
  go_enter Tryz.func108, Tryz.ntmps108
  go_wp2_with fail
  refine (p.idle (by omega) (s' := ⟨s.c, b1⟩) (by rw [← Hb1.out]; rfl)).mono ?_
  rintro e w1 ⟨rfl, p2⟩
  obtain ⟨g0, g1, g2, g3, g4, g5, g6, g7, g8, g9, g10, g11, g12, g13, g15, gf⟩ := p2.cells
  rw [hk] at g12
  rw [hm] at g13
  go_wp2_with fail
  refine (p2.moved_TAY hk).mono ?_
  rintro e w3 ⟨rfl, rfl⟩
  go_wp2_with fail
  have p4 := p2.setY _ (s.c.A) rfl vb rfl
  clear g0 g1 g2 g3 g4 g5 g6 g7 g8 g9 g10 g11 g12 g13 g15 gf
  clear p2
  generalize w1.setCell ⟨P, 2, none⟩ (.int .u8 ((s.c.A : Nat) : Int)) = W5 at p4 ⊢
  obtain ⟨g0, g1, g2, g3, g4, g5, g6, g7, g8, g9, g10, g11, g12, g13, g15, gf⟩ := p4.cells
  rw [hk] at g12
  go_wp2_with fail
  clear g0 g1 g2 g3 g4 g5 g6 g7 g8 g9 g10 g11 g12 g13 g15 gf
  go_wp2_with fail
  have p6 := p4.drew
  have g2 := p6.cells.2.2.1
  have g5 := p6.cells.2.2.2.2.2.1
  have g6 := p6.cells.2.2.2.2.2.2.1
  have g7 := p6.cells.2.2.2.2.2.2.2.1
  have g8 := p6.cells.2.2.2.2.2.2.2.2.1
  have g9 := p6.cells.2.2.2.2.2.2.2.2.2.1
  have g10 := p6.cells.2.2.2.2.2.2.2.2.2.2.1
  have gf := p6.cells.2.2.2.2.2.2.2.2.2.2.2.2.2.2.2
  go_region_with (go_at_call 139; refine (implNZ_any _ _ _ _ _ _ _ _ (by omega) (by omega)).mono ?_; rintro e w7 ⟨rfl, d8⟩; (have p9 := p6.below d8); clear g2 g5 g6 g7 g8 g9 g10 gf; (have g2 := p9.cells.2.2.1); (have g5 := p9.cells.2.2.2.2.2.1); (have g6 := p9.cells.2.2.2.2.2.2.1); (have g7 := p9.cells.2.2.2.2.2.2.2.1); (have g8 := p9.cells.2.2.2.2.2.2.2.2.1); (have g9 := p9.cells.2.2.2.2.2.2.2.2.2.1); (have g10 := p9.cells.2.2.2.2.2.2.2.2.2.2.1); (have gf := p9.cells.2.2.2.2.2.2.2.2.2.2.2.2.2.2.2))
  all_goals
    go_wp2
    (try simp only [Exit.inBlock, Exit.then])
    first | refine bodyPost_ret (results_none rfl _ _ _) rfl ?_ | refine bodyPost_end (results_none rfl _ _ _) rfl ?_
    refine ⟨rfl, ?_⟩
    exact p9.flags _ _ _ _ _ _ Hhs'.out

set_option maxRecDepth 100000 in
set_option maxHeartbeats 2000000 in
theorem Play.implied_INY {F : Nat → Prop} {w W : World} {P : Nat} {o : Option Nat} {k : OpK} {s : St} {N : Nat} (p : Play F w W P o k s N) (hk : k.nm = ⟨#[73, 78, 89]⟩) (hm : k.md = 0) (hN : N ≤ 88) {s' : St} (hs : ⟨impL s.c [73, 78, 89] 0, s.b.rd s.c.PC⟩ = s') :
    Calls Tryz.prog 108 #[.pointer (some ⟨P, 0, none⟩)] W fun e w' => e = .returned (.tuple #[]) ∧ Play F w w' P o k s' (N + 1) := by
  obtain ⟨hA, hX, hY, hS, hP⟩ := p.pl.ok
  obtain ⟨b1, hb1⟩ : ∃ r_, s.b.rd s.c.PC = r_ := ⟨_, rfl⟩
  obtain ⟨v, hv⟩ : ∃ r_, (s.c.Y + 1) % 256 = r_ := ⟨_, rfl⟩
  have vb : v < 256 := by omega
  have hs' : (⟨{ s.c with Y := v, N := bit7 (v : Nat), Z := isZ (v : Nat) }, b1⟩ : St) = s' := by rw [← hs, ← hb1]; simp [impL, regL, flagL, CpuN.nz, hv]
  have Hhs' := Lib.hid hs'
  clear hs hs'
  have Hb1 := Lib.hid hb1
  have Hv := Lib.hid hv
  clear hb1 hv
  go_enter Tryz.func108, Tryz.ntmps108
  go_wp2_with fail
  refine (p.idle (by omega) (s' := ⟨s.c, b1⟩) (by rw [← Hb1.out]; rfl)).mono ?_
  rintro e w1 ⟨rfl, p2⟩
  obtain ⟨g0, g1, g2, g3, g4, g5, g6, g7, g8, g9, g10, g11, g12, g13, g15, gf⟩ := p2.cells
  rw [hk] at g12
  rw [hm] at g13
  go_wp2_with fail
  refine (p2.moved_INY hk).mono ?_
  rintro e w3 ⟨rfl, rfl⟩
  dsimp only
  rw [Hv.out]
  go_wp2_with fail
  have p4 := p2.setY _ (v) rfl vb rfl
  clear g0 g1 g2 g3 g4 g5 g6 g7 g8 g9 g10 g11 g12 g13 g15 gf
  clear p2
  generalize w1.setCell ⟨P, 2, none⟩ (.int .u8 ((v : Nat) : Int)) = W5 at p4 ⊢
  obtain ⟨g0, g1, g2, g3, g4, g5, g6, g7, g8, g9, g10, g11, g12, g13, g15, gf⟩ := p4.cells
  rw [hk] at g12
  go_wp2_with fail
  clear g0 g1 g2 g3 g4 g5 g6 g7 g8 g9 g10 g11 g12 g13 g15 gf
  go_wp2_with fail
  have p6 := p4.drew
  have g2 := p6.cells.2.2.1
  have g5 := p6.cells.2.2.2.2.2.1
  have g6 := p6.cells.2.2.2.2.2.2.1
  have g7 := p6.cells.2.2.2.2.2.2.2.1
  have g8 := p6.cells.2.2.2.2.2.2.2.2.1
  have g9 := p6.cells.2.2.2.2.2.2.2.2.2.1
  have g10 := p6.cells.2.2.2.2.2.2.2.2.2.2.1
  have gf := p6.cells.2.2.2.2.2.2.2.2.2.2.2.2.2.2.2
  go_region_with (go_at_call 139; refine (implNZ_any _ _ _ _ _ _ _ _ (by omega) (by omega)).mono ?_; rintro e w7 ⟨rfl, d8⟩; (have p9 := p6.below d8); clear g2 g5 g6 g7 g8 g9 g10 gf; (have g2 := p9.cells.2.2.1); (have g5 := p9.cells.2.2.2.2.2.1); (have g6 := p9.cells.2.2.2.2.2.2.1); (have g7 := p9.cells.2.2.2.2.2.2.2.1); (have g8 := p9.cells.2.2.2.2.2.2.2.2.1); (have g9 := p9.cells.2.2.2.2.2.2.2.2.2.1); (have g10 := p9.cells.2.2.2.2.2.2.2.2.2.2.1); (have gf := p9.cells.2.2.2.2.2.2.2.2.2.2.2.2.2.2.2))
  all_goals
    go_wp2
    (try simp only [Exit.inBlock, Exit.then])
    first | refine bodyPost_ret (results_none rfl _ _ _) rfl ?_ | refine bodyPost_end (results_none rfl _ _ _) rfl ?_
    refine ⟨rfl, ?_⟩
    exact p9.flags _ _ _ _ _ _ Hhs'.out

end Go.Proofs.YtblchdmemhhcbaaGreat

namespace Go.Proofs.YtblchdmemhhcbaaGreat
set_option linter.unusedVariables false
set_option linter.unusedSimpArgs false
open Go.RowKit

set_option maxRecDepth 100000 in
theorem Play.remade_ASL {F : Nat → Prop} {w W : World} {P : Nat} {o : Option Nat} {k : OpK} {s : St} {N : Nat} (p : Play F w W P o k s N) (hk : k.nm = ⟨#[65, 83, 76]⟩) (m : Nat) (hm : m < 256) (hN : N ≤ 90) {z : Nat} {s' : St} (hz : chgB [65, 83, 76] m s.c.C = z) (hs : ⟨s.c.chg [65, 83, 76] m, s.b⟩ = s') :
    Calls Tryz.prog 137 #[.pointer (some ⟨P, 0, none⟩), .int .u8 (m : Int)] W fun e w' => e = .returned (.int .u8 (z : Int)) ∧ Play F w w' P o k s' (N + 0) := by
  obtain ⟨hA, hX, hY, hS, hP⟩ := p.pl.ok
  obtain ⟨x, hx⟩ := nat_of (mvR_bd (m : Int) true false (by omega) (by omega)).1
  have hxb : x < 256 := by have := (mvR_bd (m : Int) true false (by omega) (by omega)).2; omega
  have hz' : x = z := by rw [← hz]; simp [chgB, hx]
  subst hz'
  clear hz
  have Hx := Lib.hid hx
  clear hx
  go_enter Tryz.func137, Tryz.ntmps137
  obtain ⟨g0, g1, g2, g3, g4, g5, g6, g7, g8, g9, g10, g11, g12, g13, g15, gf⟩ := p.cells
  rw [hk] at g12
  go_wp2_with fail
  refine (implAsl_any _ _ _ _ _ _ _ (by omega) (by omega) _).mono ?_
  rintro e w1 ⟨rfl, d2⟩
  have p3 := p.below d2
  clear g0 g1 g2 g3 g4 g5 g6 g7 g8 g9 g10 g11 g12 g13 g15 gf
  clear d2
  rw [Hx.out]
  obtain ⟨g0, g1, g2, g3, g4, g5, g6, g7, g8, g9, g10, g11, g12, g13, g15, gf⟩ := p3.cells
  rw [hk] at g12
  go_wp2
  go_ret
  refine ⟨rfl, ?_⟩
  exact p3.flags _ _ _ _ _ _ (by rw [← hs]; simp [CpuN.chg, chgB, chgC, Hx.out])

set_option maxRecDepth 100000 in
theorem Play.remade_LSR {F : Nat → Prop} {w W : World} {P : Nat} {o : Option Nat} {k : OpK} {s : St} {N : Nat} (p : Play F w W P o k s N) (hk : k.nm = ⟨#[76, 83, 82]⟩) (m : Nat) (hm : m < 256) (hN : N ≤ 90) {z : Nat} {s' : St} (hz : chgB [76, 83, 82] m s.c.C = z) (hs : ⟨s.c.chg [76, 83, 82] m, s.b⟩ = s') :
    Calls Tryz.prog 137 #[.pointer (some ⟨P, 0, none⟩), .int .u8 (m : Int)] W fun e w' => e = .returned (.int .u8 (z : Int)) ∧ Play F w w' P o k s' (N + 0) := by
  obtain ⟨hA, hX, hY, hS, hP⟩ := p.pl.ok
  obtain ⟨x, hx⟩ := nat_of (mvR_bd (m : Int) false false (by omega) (by omega)).1
  have hxb : x < 256 := by have := (mvR_bd (m : Int) false false (by omega) (by omega)).2; omega
  have hz' : x = z := by rw [← hz]; simp [chgB, hx]
  subst hz'
  clear hz
  have Hx := Lib.hid hx
  clear hx
  go_enter Tryz.func137, Tryz.ntmps137
  obtain ⟨g0, g1, g2, g3, g4, g5, g6, g7, g8, g9, g10, g11, g12, g13, g15, gf⟩ := p.cells
  rw [hk] at g12
  go_wp2_with fail
  refine (implLsr_any _ _ _ _ _ _ _ (by omega) (by omega) _).mono ?_
  rintro e w1 ⟨rfl, d2⟩
  have p3 := p.below d2
  clear g0 g1 g2 g3 g4 g5 g6 g7 g8 g9 g10 g11 g12 g13 g15 gf
  clear d2
  rw [Hx.out]
  obtain ⟨g0, g1, g2, g3, g4, g5, g6, g7, g8, g9, g10, g11, g12, g13, g15, gf⟩ := p3.cells
  rw [hk] at g12
  go_wp2
  go_ret
  refine ⟨rfl, ?_⟩
  exact p3.flags _ _ _ _ _ _ (by rw [← hs]; simp [CpuN.chg, chgB, chgC, Hx.out])

set_option maxRecDepth 100000 in
theorem Play.remade_ROL {F : Nat → Prop} {w W : World} {P : Nat} {o : Option Nat} {k : OpK} {s : St} {N : Nat} (p : Play F w W P o k s N) (hk : k.nm = ⟨#[82, 79, 76]⟩) (m : Nat) (hm : m < 256) (hN : N ≤ 90) {z : Nat} {s' : St} (hz : chgB [82, 79, 76] m s.c.C = z) (hs : ⟨s.c.chg [82, 79, 76] m, s.b⟩ = s') :
    Calls Tryz.prog 137 #[.pointer (some ⟨P, 0, none⟩), .int .u8 (m : Int)] W fun e w' => e = .returned (.int .u8 (z : Int)) ∧ Play F w w' P o k s' (N + 0) := by
  obtain ⟨hA, hX, hY, hS, hP⟩ := p.pl.ok
  obtain ⟨x, hx⟩ := nat_of (mvR_bd (m : Int) true s.c.C (by omega) (by omega)).1
  have hxb : x < 256 := by have := (mvR_bd (m : Int) true s.c.C (by omega) (by omega)).2; omega
  have hz' : x = z := by rw [← hz]; simp [chgB, hx]
  subst hz'
  clear hz
  have Hx := Lib.hid hx
  clear hx
  go_enter Tryz.func137, Tryz.ntmps137
  obtain ⟨g0, g1, g2, g3, g4, g5, g6, g7, g8, g9, g10, g11, g12, g13, g15, gf⟩ := p.cells
  rw [hk] at g12
  go_wp2_with fail
  refine (implRol_any _ _ _ _ _ _ _ (by omega) (by omega) _).mono ?_
  rintro e w1 ⟨rfl, d2⟩
  have p3 := p.below d2
  clear g0 g1 g2 g3 g4 g5 g6 g7 g8 g9 g10 g11 g12 g13 g15 gf
  clear d2
  rw [Hx.out]
  obtain ⟨g0, g1, g2, g3, g4, g5, g6, g7, g8, g9, g10, g11, g12, g13, g15, gf⟩ := p3.cells
  rw [hk] at g12
  go_wp2
  go_ret
  refine ⟨rfl, ?_⟩
  exact p3.flags _ _ _ _ _ _ (by rw [← hs]; simp [CpuN.chg, chgB, chgC, Hx.out])

set_option maxRecDepth 100000 in
theorem Play.remade_ROR {F : Nat → Prop} {w W : World} {P : Nat} {o : Option Nat} {k : OpK} {s : St} {N : Nat} (p : Play F w W P o k s N) (hk : k.nm = ⟨#[82, 79, 82]⟩) (m : Nat) (hm : m < 256) (hN : N ≤ 90) {z : Nat} {s' : St} (hz : chgB [82, 79, 82] m s.c.C = z) (hs : ⟨s.c.chg [82, 79, 82] m, s.b⟩ = s') :
    Calls Tryz.prog 137 #[.pointer (some ⟨P, 0, none⟩), .int .u8 (m : Int)] W fun e w' => e = .returned (.int .u8 (z : Int)) ∧ Play F w w' P o k s' (N + 0) := by
  obtain ⟨hA, hX, hY, hS, hP⟩ := p.pl.ok
  obtain ⟨x, hx⟩ := nat_of (mvR_bd (m : Int) false s.c.C (by omega) (by omega)).1
  have hxb : x < 256 := by have := (mvR_bd (m : Int) false s.c.C (by omega) (by omega)).2; omega
  have hz' : x = z := by rw [← hz]; simp [chgB, hx]
  subst hz'
  clear hz
  have Hx := Lib.hid hx
  clear hx
  go_enter Tryz.func137, Tryz.ntmps137
  obtain ⟨g0, g1, g2, g3, g4, g5, g6, g7, g8, g9, g10, g11, g12, g13, g15, gf⟩ := p.cells
  rw [hk] at g12
  go_wp2_with fail
  refine (implRor_any _ _ _ _ _ _ _ (by omega) (by omega) _).mono ?_
  rintro e w1 ⟨rfl, d2⟩
  have p3 := p.below d2
  clear g0 g1 g2 g3 g4 g5 g6 g7 g8 g9 g10 g11 g12 g13 g15 gf
  clear d2
  rw [Hx.out]
  obtain ⟨g0, g1, g2, g3, g4, g5, g6, g7, g8, g9, g10, g11, g12, g13, g15, gf⟩ := p3.cells
  rw [hk] at g12
  go_wp2
  go_ret
  refine ⟨rfl, ?_⟩
  exact p3.flags _ _ _ _ _ _ (by rw [← hs]; simp [CpuN.chg, chgB, chgC, Hx.out])

set_option maxRecDepth 100000 in
theorem Play.remade_INC {F : Nat → Prop} {w W : World} {P : Nat} {o : Option Nat} {k : OpK} {s : St} {N : Nat} (p : Play F w W P o k s N) (hk : k.nm = ⟨#[73, 78, 67]⟩) (m : Nat) (hm : m < 256) (hN : N ≤ 90) {z : Nat} {s' : St} (hz : chgB [73, 78, 67] m s.c.C = z) (hs : ⟨s.c.chg [73, 78, 67] m, s.b⟩ = s') :
    Calls Tryz.prog 137 #[.pointer (some ⟨P, 0, none⟩), .int .u8 (m : Int)] W fun e w' => e = .returned (.int .u8 (z : Int)) ∧ Play F w w' P o k s' (N + 0) := by
  obtain ⟨hA, hX, hY, hS, hP⟩ := p.pl.ok
  have hx : (m + 1) % 256 = z := by rw [← hz]; simp [chgB]
  have hzb : z < 256 := by omega
  have e3 : IntKind.u8.wrap ((m : Int) + 1) = (z : Int) := by simp [IntKind.wrap, IntKind.bits, IntKind.signed]; omega
  clear hz
  have Hx := Lib.hid hx
  clear hx
  go_enter Tryz.func137, Tryz.ntmps137
  obtain ⟨g0, g1, g2, g3, g4, g5, g6, g7, g8, g9, g10, g11, g12, g13, g15, gf⟩ := p.cells
  rw [hk] at g12
  go_wp2_with fail
  refine (implNZ_any _ _ _ _ _ _ _ _ (by omega) (by omega)).mono ?_
  rintro e w1 ⟨rfl, d2⟩
  have p3 := p.below d2
  clear g0 g1 g2 g3 g4 g5 g6 g7 g8 g9 g10 g11 g12 g13 g15 gf
  clear d2
  obtain ⟨g0, g1, g2, g3, g4, g5, g6, g7, g8, g9, g10, g11, g12, g13, g15, gf⟩ := p3.cells
  rw [hk] at g12
  go_wp2
  go_ret
  refine ⟨rfl, ?_⟩
  exact p3.flags _ _ _ _ _ _ (by rw [← hs]; simp [CpuN.chg, chgB, chgC, Hx.out])

set_option maxRecDepth 100000 in
theorem Play.remade_DEC {F : Nat → Prop} {w W : World} {P : Nat} {o : Option Nat} {k : OpK} {s : St} {N : Nat} (p : Play F w W P o k s N) (hk : k.nm = ⟨#[68, 69, 67]⟩) (m : Nat) (hm : m < 256) (hN : N ≤ 90) {z : Nat} {s' : St} (hz : chgB [68, 69, 67] m s.c.C = z) (hs : ⟨s.c.chg [68, 69, 67] m, s.b⟩ = s') :
    Calls Tryz.prog 137 #[.pointer (some ⟨P, 0, none⟩), .int .u8 (m : Int)] W fun e w' => e = .returned (.int .u8 (z : Int)) ∧ Play F w w' P o k s' (N + 0) := by
  obtain ⟨hA, hX, hY, hS, hP⟩ := p.pl.ok
  have hx : (m + 255) % 256 = z := by rw [← hz]; simp [chgB]
  have hzb : z < 256 := by omega
  have e3 : IntKind.u8.wrap ((m : Int) - 1) = (z : Int) := by simp [IntKind.wrap, IntKind.bits, IntKind.signed]; omega
  clear hz
  have Hx := Lib.hid hx
  clear hx
  go_enter Tryz.func137, Tryz.ntmps137
  obtain ⟨g0, g1, g2, g3, g4, g5, g6, g7, g8, g9, g10, g11, g12, g13, g15, gf⟩ := p.cells
  rw [hk] at g12
  go_wp2_with fail
  refine (implNZ_any _ _ _ _ _ _ _ _ (by omega) (by omega)).mono ?_
  rintro e w1 ⟨rfl, d2⟩
  have p3 := p.below d2
  clear g0 g1 g2 g3 g4 g5 g6 g7 g8 g9 g10 g11 g12 g13 g15 gf
  clear d2
  obtain ⟨g0, g1, g2, g3, g4, g5, g6, g7, g8, g9, g10, g11, g12, g13, g15, gf⟩ := p3.cells
  rw [hk] at g12
  go_wp2
  go_ret
  refine ⟨rfl, ?_⟩
  exact p3.flags _ _ _ _ _ _ (by rw [← hs]; simp [CpuN.chg, chgB, chgC, Hx.out])

end Go.Proofs.YtblchdmemhhcbaaGreat
