/-
  Contracts over the program: what a player plays without an operand (playImplied), further names; with A.
-/
import Derived.Test.YtblchdmemhhcbaaGreatQSPlayH
import Derived.Test.YtblchdmemhhcbaaGreatQSPlayG
import Derived.Test.YtblchdmemhhcbaaGreatQSAluE
namespace Go.Proofs.YtblchdmemhhcbaaGreat
set_option linter.unusedVariables false
set_option linter.unusedSimpArgs false
open Go.RowKit

theorem chgB_256 {l : List UInt8} {m : Nat} {c : Bool} (hm : m < 256) : chgB l m c < 256 := by
  have h1 := mvR_bd (m : Int) true false (by omega) (by omega)
  have h2 := mvR_bd (m : Int) false false (by omega) (by omega)
  have h3 := mvR_bd (m : Int) true c (by omega) (by omega)
  have h4 := mvR_bd (m : Int) false c (by omega) (by omega)
  unfold chgB
  repeat' split
  all_goals omega

set_option maxRecDepth 100000 in
set_option maxHeartbeats 2000000 in
theorem Play.implied_INX {F : Nat → Prop} {w W : World} {P : Nat} {o : Option Nat} {k : OpK} {s : St} {N : Nat} (p : Play F w W P o k s N) (hk : k.nm = ⟨#[73, 78, 88]⟩) (hm : k.md = 0) (hN : N ≤ 88) {s' : St} (hs : ⟨impL s.c [73, 78, 88] 0, s.b.rd s.c.PC⟩ = s') :
    Calls Tryz.prog 108 #[.pointer (some ⟨P, 0, none⟩)] W fun e w' => e = .returned (.tuple #[]) ∧ Play F w w' P o k s' (N + 1) := by
  obtain ⟨hA, hX, hY, hS, hP⟩ := p.pl.ok
  obtain ⟨b1, hb1⟩ : ∃ r_, s.b.rd s.c.PC = r_ := ⟨_, rfl⟩
  obtain ⟨v, hv⟩ : ∃ r_, (s.c.X + 1) % 256 = r_ := ⟨_, rfl⟩
  have vb : v < 256 := by omega
  have hs' : (⟨{ s.c with X := v, N := bit7 (v : Nat), Z := isZ (v : Nat) }, b1⟩ : St) = s' := by rw [← hs, ← hb1]; simp [impL, regL, flagL, CpuN.nz, hv]
  have Hhs' := Lib.hid hs'
  clear hs hs'
  have Hb1 := Lib.hid hb1
  have Hv := Lib.hid hv
  clear hb1 hv
  go_enter Tryz.func108, Tryz.ntmps108
  go_wp2_with fail
  refine (p.idle (by omega) (s' := ⟨s.c, b1⟩) (by rw [← Hb1.out]; rfl)).mono ?_
  rintro e w1 ⟨rfl, p2⟩
  obtain ⟨g0, g1, g2, g3, g4, g5, g6, g7, g8, g9, g10, g11, g12, g13, g15, gf⟩ := p2.cells
  rw [hk] at g12
  rw [hm] at g13
  go_wp2_with fail
  refine (p2.moved_INX hk).mono ?_
  rintro e w3 ⟨rfl, rfl⟩
  dsimp only
  rw [Hv.out]
  go_wp2_with fail
  have p4 := p2.setX _ (v) rfl vb rfl
  clear g0 g1 g2 g3 g4 g5 g6 g7 g8 g9 g10 g11 g12 g13 g15 gf
  clear p2
  generalize w1.setCell ⟨P, 1, none⟩ (.int .u8 ((v : Nat) : Int)) = W5 at p4 ⊢
  obtain ⟨g0, g1, g2, g3, g4, g5, g6, g7, g8, g9, g10, g11, g12, g13, g15, gf⟩ := p4.cells
  rw [hk] at g12
  go_wp2_with fail
  clear g0 g1 g2 g3 g4 g5 g6 g7 g8 g9 g10 g11 g12 g13 g15 gf
  go_wp2_with fail
  have p6 := p4.drew
  have g1 := p6.cells.2.1
  have g5 := p6.cells.2.2.2.2.2.1
  have g6 := p6.cells.2.2.2.2.2.2.1
  have g7 := p6.cells.2.2.2.2.2.2.2.1
  have g8 := p6.cells.2.2.2.2.2.2.2.2.1
  have g9 := p6.cells.2.2.2.2.2.2.2.2.2.1
  have g10 := p6.cells.2.2.2.2.2.2.2.2.2.2.1
  have gf := p6.cells.2.2.2.2.2.2.2.2.2.2.2.2.2.2.2
  go_region_with (go_at_call 139; refine (implNZ_any _ _ _ _ _ _ _ _ (by omega) (by omega)).mono ?_; rintro e w7 ⟨rfl, d8⟩; (have p9 := p6.below d8); clear g1 g5 g6 g7 g8 g9 g10 gf; (have g1 := p9.cells.2.1); (have g5 := p9.cells.2.2.2.2.2.1); (have g6 := p9.cells.2.2.2.2.2.2.1); (have g7 := p9.cells.2.2.2.2.2.2.2.1); (have g8 := p9.cells.2.2.2.2.2.2.2.2.1); (have g9 := p9.cells.2.2.2.2.2.2.2.2.2.1); (have g10 := p9.cells.2.2.2.2.2.2.2.2.2.2.1); (have gf := p9.cells.2.2.2.2.2.2.2.2.2.2.2.2.2.2.2))
  all_goals
    go_wp2
    (try simp only [Exit.inBlock, Exit.then])
    first | refine bodyPost_ret (results_none rfl _ _ _) rfl ?_ | refine bodyPost_end (results_none rfl _ _ _) rfl ?_
    refine ⟨rfl, ?_⟩
    exact p9.flags _ _ _ _ _ _ Hhs'.out

set_option maxRecDepth 100000 in
set_option maxHeartbeats 2000000 in
theorem Play.implied_CLC {F : Nat → Prop} {w W : World} {P : Nat} {o : Option Nat} {k : OpK} {s : St} {N : Nat} (p : Play F w W P o k s N) (hk : k.nm = ⟨#[67, 76, 67]⟩) (hm : k.md = 0) (hN : N ≤ 88) {s' : St} (hs : ⟨impL s.c [67, 76, 67] 0, s.b.rd s.c.PC⟩ = s') :
    Calls Tryz.prog 108 #[.pointer (some ⟨P, 0, none⟩)] W fun e w' => e = .returned (.tuple #[]) ∧ Play F w w' P o k s' (N + 1) := by
  obtain ⟨hA, hX, hY, hS, hP⟩ := p.pl.ok
  obtain ⟨b1, hb1⟩ : ∃ r_, s.b.rd s.c.PC = r_ := ⟨_, rfl⟩
  have hs' : (⟨flagL s.c [67, 76, 67], b1⟩ : St) = s' := by rw [← hs, ← hb1]; simp [impL, regL]
  have Hhs' := Lib.hid hs'
  clear hs hs'
  have Hb1 := Lib.hid hb1
  clear hb1
  go_enter Tryz.func108, Tryz.ntmps108
  go_wp2_with fail
  refine (p.idle (by omega) (s' := ⟨s.c, b1⟩) (by rw [← Hb1.out]; rfl)).mono ?_
  rintro e w1 ⟨rfl, p2⟩
  obtain ⟨g0, g1, g2, g3, g4, g5, g6, g7, g8, g9, g10, g11, g12, g13, g15, gf⟩ := p2.cells
  rw [hk] at g12
  rw [hm] at g13
  go_wp2_with fail
  refine (p2.turnFlag_CLC hk (by omega) Hhs'.out).mono ?_
  rintro e w3 ⟨rfl, p4⟩
  clear g0 g1 g2 g3 g4 g5 g6 g7 g8 g9 g10 g11 g12 g13 g15 gf
  clear p2
  go_wp2
  (try simp only [Exit.inBlock, Exit.then])
  first | refine bodyPost_ret (results_none rfl _ _ _) rfl ?_ | refine bodyPost_end (results_none rfl _ _ _) rfl ?_
  refine ⟨rfl, ?_⟩
  exact p4

set_option maxRecDepth 100000 in
set_option maxHeartbeats 2000000 in
theorem Play.implied_SEC {F : Nat → Prop} {w W : World} {P : Nat} {o : Option Nat} {k : OpK} {s : St} {N : Nat} (p : Play F w W P o k s N) (hk : k.nm = ⟨#[83, 69, 67]⟩) (hm : k.md = 0) (hN : N ≤ 88) {s' : St} (hs : ⟨impL s.c [83, 69, 67] 0, s.b.rd s.c.PC⟩ = s') :
    Calls Tryz.prog 108 #[.pointer (some ⟨P, 0, none⟩)] W fun e w' => e = .returned (.tuple #[]) ∧ Play F w w' P o k s' (N + 1) := by
  obtain ⟨hA, hX, hY, hS, hP⟩ := p.pl.ok
  obtain ⟨b1, hb1⟩ : ∃ r_, s.b.rd s.c.PC = r_ := ⟨_, rfl⟩
  have hs' : (⟨flagL s.c [83, 69, 67], b1⟩ : St) = s' := by rw [← hs, ← hb1]; simp [impL, regL]
  have Hhs' := Lib.hid hs'
  clear hs hs'
  have Hb1 := Lib.hid hb1
  clear hb1
  go_enter Tryz.func108, Tryz.ntmps108
  go_wp2_with fail
  refine (p.idle (by omega) (s' := ⟨s.c, b1⟩) (by rw [← Hb1.out]; rfl)).mono ?_
  rintro e w1 ⟨rfl, p2⟩
  obtain ⟨g0, g1, g2, g3, g4, g5, g6, g7, g8, g9, g10, g11, g12, g13, g15, gf⟩ := p2.cells
  rw [hk] at g12
  rw [hm] at g13
  go_wp2_with fail
  refine (p2.turnFlag_SEC hk (by omega) Hhs'.out).mono ?_
  rintro e w3 ⟨rfl, p4⟩
  clear g0 g1 g2 g3 g4 g5 g6 g7 g8 g9 g10 g11 g12 g13 g15 gf
  clear p2
  go_wp2
  (try simp only [Exit.inBlock, Exit.then])
  first | refine bodyPost_ret (results_none rfl _ _ _) rfl ?_ | refine bodyPost_end (results_none rfl _ _ _) rfl ?_
  refine ⟨rfl, ?_⟩
  exact p4

set_option maxRecDepth 100000 in
set_option maxHeartbeats 2000000 in
theorem Play.implied_CLI {F : Nat → Prop} {w W : World} {P : Nat} {o : Option Nat} {k : OpK} {s : St} {N : Nat} (p : Play F w W P o k s N) (hk : k.nm = ⟨#[67, 76, 73]⟩) (hm : k.md = 0) (hN : N ≤ 88) {s' : St} (hs : ⟨impL s.c [67, 76, 73] 0, s.b.rd s.c.PC⟩ = s') :
    Calls Tryz.prog 108 #[.pointer (some ⟨P, 0, none⟩)] W fun e w' => e = .returned (.tuple #[]) ∧ Play F w w' P o k s' (N + 1) := by
  obtain ⟨hA, hX, hY, hS, hP⟩ := p.pl.ok
  obtain ⟨b1, hb1⟩ : ∃ r_, s.b.rd s.c.PC = r_ := ⟨_, rfl⟩
  have hs' : (⟨flagL s.c [67, 76, 73], b1⟩ : St) = s' := by rw [← hs, ← hb1]; simp [impL, regL]
  have Hhs' := Lib.hid hs'
  clear hs hs'
  have Hb1 := Lib.hid hb1
  clear hb1
  go_enter Tryz.func108, Tryz.ntmps108
  go_wp2_with fail
  refine (p.idle (by omega) (s' := ⟨s.c, b1⟩) (by rw [← Hb1.out]; rfl)).mono ?_
  rintro e w1 ⟨rfl, p2⟩
  obtain ⟨g0, g1, g2, g3, g4, g5, g6, g7, g8, g9, g10, g11, g12, g13, g15, gf⟩ := p2.cells
  rw [hk] at g12
  rw [hm] at g13
  go_wp2_with fail
  refine (p2.turnFlag_CLI hk (by omega) Hhs'.out).mono ?_
  rintro e w3 ⟨rfl, p4⟩
  clear g0 g1 g2 g3 g4 g5 g6 g7 g8 g9 g10 g11 g12 g13 g15 gf
  clear p2
  go_wp2
  (try simp only [Exit.inBlock, Exit.then])
  first | refine bodyPost_ret (results_none rfl _ _ _) rfl ?_ | refine bodyPost_end (results_none rfl _ _ _) rfl ?_
  refine ⟨rfl, ?_⟩
  exact p4

set_option maxRecDepth 100000 in
set_option maxHeartbeats 2000000 in
theorem Play.implied_SEI {F : Nat → Prop} {w W : World} {P : Nat} {o : Option Nat} {k : OpK} {s : St} {N : Nat} (p : Play F w W P o k s N) (hk : k.nm = ⟨#[83, 69, 73]⟩) (hm : k.md = 0) (hN : N ≤ 88) {s' : St} (hs : ⟨impL s.c [83, 69, 73] 0, s.b.rd s.c.PC⟩ = s') :
    Calls Tryz.prog 108 #[.pointer (some ⟨P, 0, none⟩)] W fun e w' => e = .returned (.tuple #[]) ∧ Play F w w' P o k s' (N + 1) := by
  obtain ⟨hA, hX, hY, hS, hP⟩ := p.pl.ok
  obtain ⟨b1, hb1⟩ : ∃ r_, s.b.rd s.c.PC = r_ := ⟨_, rfl⟩
  have hs' : (⟨flagL s.c [83, 69, 73], b1⟩ : St) = s' := by rw [← hs, ← hb1]; simp [impL, regL]
  have Hhs' := Lib.hid hs'
  clear hs hs'
  have Hb1 := Lib.hid hb1
  clear hb1
  go_enter Tryz.func108, Tryz.ntmps108
  go_wp2_with fail
  refine (p.idle (by omega) (s' := ⟨s.c, b1⟩) (by rw [← Hb1.out]; rfl)).mono ?_
  rintro e w1 ⟨rfl, p2⟩
  obtain ⟨g0, g1, g2, g3, g4, g5, g6, g7, g8, g9, g10, g11, g12, g13, g15, gf⟩ := p2.cells
  rw [hk] at g12
  rw [hm] at g13
  go_wp2_with fail
  refine (p2.turnFlag_SEI hk (by omega) Hhs'.out).mono ?_
  rintro e w3 ⟨rfl, p4⟩
  clear g0 g1 g2 g3 g4 g5 g6 g7 g8 g9 g10 g11 g12 g13 g15 gf
  clear p2
  go_wp2
  (try simp only [Exit.inBlock, Exit.then])
  first | refine bodyPost_ret (results_none rfl _ _ _) rfl ?_ | refine bodyPost_end (results_none rfl _ _ _) rfl ?_
  refine ⟨rfl, ?_⟩
  exact p4

set_option maxRecDepth 100000 in
set_option maxHeartbeats 2000000 in
theorem Play.implied_TYA {F : Nat → Prop} {w W : World} {P : Nat} {o : Option Nat} {k : OpK} {s : St} {N : Nat} (p : Play F w W P o k s N) (hk : k.nm = ⟨#[84, 89, 65]⟩) (hm : k.md = 0) (hN : N ≤ 88) {s' : St} (hs : ⟨impL s.c [84, 89, 65] 0, s.b.rd s.c.PC⟩ = s') :
    Calls Tryz.prog 108 #[.pointer (some ⟨P, 0, none⟩)] W fun e w' => e = .returned (.tuple #[]) ∧ Play F w w' P o k s' (N + 1) := by
  obtain ⟨hA, hX, hY, hS, hP⟩ := p.pl.ok
  obtain ⟨b1, hb1⟩ : ∃ r_, s.b.rd s.c.PC = r_ := ⟨_, rfl⟩
  have vb : s.c.Y < 256 := by omega
  have hs' : (⟨{ s.c with A := s.c.Y, N := bit7 (s.c.Y : Nat), Z := isZ (s.c.Y : Nat) }, b1⟩ : St) = s' := by rw [← hs, ← hb1]; simp [impL, regL, flagL, CpuN.nz]
  have Hhs' := Lib.hid hs'
  clear hs hs'
  have Hb1 := Lib.hid hb1
  clear hb1
  go_enter Tryz.func108, Tryz.ntmps108
  go_wp2_with fail
  refine (p.idle (by omega) (s' := ⟨s.c, b1⟩) (by rw [← Hb1.out]; rfl)).mono ?_
  rintro e w1 ⟨rfl, p2⟩
  obtain ⟨g0, g1, g2, g3, g4, g5, g6, g7, g8, g9, g10, g11, g12, g13, g15, gf⟩ := p2.cells
  rw [hk] at g12
  rw [hm] at g13
  go_wp2_with fail
  refine (p2.moved_TYA hk).mono ?_
  rintro e w3 ⟨rfl, rfl⟩
  go_wp2_with fail
  have p4 := p2.setA _ (s.c.Y) rfl vb rfl
  clear g0 g1 g2 g3 g4 g5 g6 g7 g8 g9 g10 g11 g12 g13 g15 gf
  clear p2
  generalize w1.setCell ⟨P, 0, none⟩ (.int .u8 ((s.c.Y : Nat) : Int)) = W5 at p4 ⊢
  obtain ⟨g0, g1, g2, g3, g4, g5, g6, g7, g8, g9, g10, g11, g12, g13, g15, gf⟩ := p4.cells
  rw [hk] at g12
  go_wp2_with fail
  clear g0 g1 g2 g3 g4 g5 g6 g7 g8 g9 g10 g11 g12 g13 g15 gf
  go_wp2_with fail
  have p6 := p4.drew
  have g0 := p6.cells.1
  have g5 := p6.cells.2.2.2.2.2.1
  have g6 := p6.cells.2.2.2.2.2.2.1
  have g7 := p6.cells.2.2.2.2.2.2.2.1
  have g8 := p6.cells.2.2.2.2.2.2.2.2.1
  have g9 := p6.cells.2.2.2.2.2.2.2.2.2.1
  have g10 := p6.cells.2.2.2.2.2.2.2.2.2.2.1
  have gf := p6.cells.2.2.2.2.2.2.2.2.2.2.2.2.2.2.2
  go_region_with (go_at_call 139; refine (implNZ_any _ _ _ _ _ _ _ _ (by omega) (by omega)).mono ?_; rintro e w7 ⟨rfl, d8⟩; (have p9 := p6.below d8); clear g0 g5 g6 g7 g8 g9 g10 gf; (have g0 := p9.cells.1); (have g5 := p9.cells.2.2.2.2.2.1); (have g6 := p9.cells.2.2.2.2.2.2.1); (have g7 := p9.cells.2.2.2.2.2.2.2.1); (have g8 := p9.cells.2.2.2.2.2.2.2.2.1); (have g9 := p9.cells.2.2.2.2.2.2.2.2.2.1); (have g10 := p9.cells.2.2.2.2.2.2.2.2.2.2.1); (have gf := p9.cells.2.2.2.2.2.2.2.2.2.2.2.2.2.2.2))
  all_goals
    go_wp2
    (try simp only [Exit.inBlock, Exit.then])
    first | refine bodyPost_ret (results_none rfl _ _ _) rfl ?_ | refine bodyPost_end (results_none rfl _ _ _) rfl ?_
    refine ⟨rfl, ?_⟩
    exact p9.flags _ _ _ _ _ _ Hhs'.out

set_option maxRecDepth 100000 in
set_option maxHeartbeats 2000000 in
theorem Play.implied_CLV {F : Nat → Prop} {w W : World} {P : Nat} {o : Option Nat} {k : OpK} {s : St} {N : Nat} (p : Play F w W P o k s N) (hk : k.nm = ⟨#[67, 76, 86]⟩) (hm : k.md = 0) (hN : N ≤ 88) {s' : St} (hs : ⟨impL s.c [67, 76, 86] 0, s.b.rd s.c.PC⟩ = s') :
    Calls Tryz.prog 108 #[.pointer (some ⟨P, 0, none⟩)] W fun e w' => e = .returned (.tuple #[]) ∧ Play F w w' P o k s' (N + 1) := by
  obtain ⟨hA, hX, hY, hS, hP⟩ := p.pl.ok
  obtain ⟨b1, hb1⟩ : ∃ r_, s.b.rd s.c.PC = r_ := ⟨_, rfl⟩
  have hs' : (⟨flagL s.c [67, 76, 86], b1⟩ : St) = s' := by rw [← hs, ← hb1]; simp [impL, regL]
  have Hhs' := Lib.hid hs'
  clear hs hs'
  have Hb1 := Lib.hid hb1
  clear hb1
  go_enter Tryz.func108, Tryz.ntmps108
  go_wp2_with fail
  refine (p.idle (by omega) (s' := ⟨s.c, b1⟩) (by rw [← Hb1.out]; rfl)).mono ?_
  rintro e w1 ⟨rfl, p2⟩
  obtain ⟨g0, g1, g2, g3, g4, g5, g6, g7, g8, g9, g10, g11, g12, g13, g15, gf⟩ := p2.cells
  rw [hk] at g12
  rw [hm] at g13
  go_wp2_with fail
  refine (p2.turnFlag_CLV hk (by omega) Hhs'.out).mono ?_
  rintro e w3 ⟨rfl, p4⟩
  clear g0 g1 g2 g3 g4 g5 g6 g7 g8 g9 g10 g11 g12 g13 g15 gf
  clear p2
  go_wp2
  (try simp only [Exit.inBlock, Exit.then])
  first | refine bodyPost_ret (results_none rfl _ _ _) rfl ?_ | refine bodyPost_end (results_none rfl _ _ _) rfl ?_
  refine ⟨rfl, ?_⟩
  exact p4

set_option maxRecDepth 100000 in
set_option maxHeartbeats 2000000 in
theorem Play.implied_CLD {F : Nat → Prop} {w W : World} {P : Nat} {o : Option Nat} {k : OpK} {s : St} {N : Nat} (p : Play F w W P o k s N) (hk : k.nm = ⟨#[67, 76, 68]⟩) (hm : k.md = 0) (hN : N ≤ 88) {s' : St} (hs : ⟨impL s.c [67, 76, 68] 0, s.b.rd s.c.PC⟩ = s') :
    Calls Tryz.prog 108 #[.pointer (some ⟨P, 0, none⟩)] W fun e w' => e = .returned (.tuple #[]) ∧ Play F w w' P o k s' (N + 1) := by
  obtain ⟨hA, hX, hY, hS, hP⟩ := p.pl.ok
  obtain ⟨b1, hb1⟩ : ∃ r_, s.b.rd s.c.PC = r_ := ⟨_, rfl⟩
  have hs' : (⟨flagL s.c [67, 76, 68], b1⟩ : St) = s' := by rw [← hs, ← hb1]; simp [impL, regL]
  have Hhs' := Lib.hid hs'
  clear hs hs'
  have Hb1 := Lib.hid hb1
  clear hb1
  go_enter Tryz.func108, Tryz.ntmps108
  go_wp2_with fail
  refine (p.idle (by omega) (s' := ⟨s.c, b1⟩) (by rw [← Hb1.out]; rfl)).mono ?_
  rintro e w1 ⟨rfl, p2⟩
  obtain ⟨g0, g1, g2, g3, g4, g5, g6, g7, g8, g9, g10, g11, g12, g13, g15, gf⟩ := p2.cells
  rw [hk] at g12
  rw [hm] at g13
  go_wp2_with fail
  refine (p2.turnFlag_CLD hk (by omega) Hhs'.out).mono ?_
  rintro e w3 ⟨rfl, p4⟩
  clear g0 g1 g2 g3 g4 g5 g6 g7 g8 g9 g10 g11 g12 g13 g15 gf
  clear p2
  go_wp2
  (try simp only [Exit.inBlock, Exit.then])
  first | refine bodyPost_ret (results_none rfl _ _ _) rfl ?_ | refine bodyPost_end (results_none rfl _ _ _) rfl ?_
  refine ⟨rfl, ?_⟩
  exact p4

set_option maxRecDepth 100000 in
set_option maxHeartbeats 2000000 in
theorem Play.implied_SED {F : Nat → Prop} {w W : World} {P : Nat} {o : Option Nat} {k : OpK} {s : St} {N : Nat} (p : Play F w W P o k s N) (hk : k.nm = ⟨#[83, 69, 68]⟩) (hm : k.md = 0) (hN : N ≤ 88) {s' : St} (hs : ⟨impL s.c [83, 69, 68] 0, s.b.rd s.c.PC⟩ = s') :
    Calls Tryz.prog 108 #[.pointer (some ⟨P, 0, none⟩)] W fun e w' => e = .returned (.tuple #[]) ∧ Play F w w' P o k s' (N + 1) := by
  obtain ⟨hA, hX, hY, hS, hP⟩ := p.pl.ok
  obtain ⟨b1, hb1⟩ : ∃ r_, s.b.rd s.c.PC = r_ := ⟨_, rfl⟩
  have hs' : (⟨flagL s.c [83, 69, 68], b1⟩ : St) = s' := by rw [← hs, ← hb1]; simp [impL, regL]
  have Hhs' := Lib.hid hs'
  clear hs hs'
  have Hb1 := Lib.hid hb1
  clear hb1
  go_enter Tryz.func108, Tryz.ntmps108
  go_wp2_with fail
  refine (p.idle (by omega) (s' := ⟨s.c, b1⟩) (by rw [← Hb1.out]; rfl)).mono ?_
  rintro e w1 ⟨rfl, p2⟩
  obtain ⟨g0, g1, g2, g3, g4, g5, g6, g7, g8, g9, g10, g11, g12, g13, g15, gf⟩ := p2.cells
  rw [hk] at g12
  rw [hm] at g13
  go_wp2_with fail
  refine (p2.turnFlag_SED hk (by omega) Hhs'.out).mono ?_
  rintro e w3 ⟨rfl, p4⟩
  clear g0 g1 g2 g3 g4 g5 g6 g7 g8 g9 g10 g11 g12 g13 g15 gf
  clear p2
  go_wp2
  (try simp only [Exit.inBlock, Exit.then])
  first | refine bodyPost_ret (results_none rfl _ _ _) rfl ?_ | refine bodyPost_end (results_none rfl _ _ _) rfl ?_
  refine ⟨rfl, ?_⟩
  exact p4

set_option maxRecDepth 100000 in
theorem Play.acc_ASL {F : Nat → Prop} {w W : World} {P : Nat} {o : Option Nat} {k : OpK} {s : St} {N : Nat} (p : Play F w W P o k s N) (hk : k.nm = ⟨#[65, 83, 76]⟩) (hm : k.md = 1) (hN : N ≤ 88) {s' : St} (hs : ⟨impL s.c [65, 83, 76] 1, s.b.rd s.c.PC⟩ = s') :
    Calls Tryz.prog 108 #[.pointer (some ⟨P, 0, none⟩)] W fun e w' => e = .returned (.tuple #[]) ∧ Play F w w' P o k s' (N + 1) := by
  obtain ⟨hA, hX, hY, hS, hP⟩ := p.pl.ok
  obtain ⟨b1, hb1⟩ : ∃ r_, s.b.rd s.c.PC = r_ := ⟨_, rfl⟩
  obtain ⟨y, hy⟩ : ∃ r_, chgB [65, 83, 76] s.c.A s.c.C = r_ := ⟨_, rfl⟩
  have yb : y < 256 := by rw [← hy]; exact chgB_256 (by omega)
  have hs' : (⟨{ s.c.chg [65, 83, 76] s.c.A with A := y }, b1⟩ : St) = s' := by rw [← hs, ← hb1]; simp [impL, hy]
  have Hhs' := Lib.hid hs'
  clear hs hs'
  have Hb1 := Lib.hid hb1
  have Hy := Lib.hid hy
  clear hb1 hy
  go_enter Tryz.func108, Tryz.ntmps108
  go_wp2_with fail
  refine (p.idle (by omega) (s' := ⟨s.c, b1⟩) (by rw [← Hb1.out]; rfl)).mono ?_
  rintro e w1 ⟨rfl, p2⟩
  obtain ⟨g0, g1, g2, g3, g4, g5, g6, g7, g8, g9, g10, g11, g12, g13, g15, gf⟩ := p2.cells
  rw [hk] at g12
  rw [hm] at g13
  go_wp2_with fail
  refine (p2.remade_ASL hk s.c.A hA (by omega) Hy.out rfl).mono ?_
  rintro e w3 ⟨rfl, p4⟩
  clear g0 g1 g2 g3 g4 g5 g6 g7 g8 g9 g10 g11 g12 g13 g15 gf
  clear p2
  obtain ⟨g0, g1, g2, g3, g4, g5, g6, g7, g8, g9, g10, g11, g12, g13, g15, gf⟩ := p4.cells
  rw [hk] at g12
  go_wp2
  (try simp only [Exit.inBlock, Exit.then])
  first | refine bodyPost_ret (results_none rfl _ _ _) rfl ?_ | refine bodyPost_end (results_none rfl _ _ _) rfl ?_
  refine ⟨rfl, ?_⟩
  exact p4.setA _ y rfl yb Hhs'.out

set_option maxRecDepth 100000 in
theorem Play.acc_ROL {F : Nat → Prop} {w W : World} {P : Nat} {o : Option Nat} {k : OpK} {s : St} {N : Nat} (p : Play F w W P o k s N) (hk : k.nm = ⟨#[82, 79, 76]⟩) (hm : k.md = 1) (hN : N ≤ 88) {s' : St} (hs : ⟨impL s.c [82, 79, 76] 1, s.b.rd s.c.PC⟩ = s') :
    Calls Tryz.prog 108 #[.pointer (some ⟨P, 0, none⟩)] W fun e w' => e = .returned (.tuple #[]) ∧ Play F w w' P o k s' (N + 1) := by
  obtain ⟨hA, hX, hY, hS, hP⟩ := p.pl.ok
  obtain ⟨b1, hb1⟩ : ∃ r_, s.b.rd s.c.PC = r_ := ⟨_, rfl⟩
  obtain ⟨y, hy⟩ : ∃ r_, chgB [82, 79, 76] s.c.A s.c.C = r_ := ⟨_, rfl⟩
  have yb : y < 256 := by rw [← hy]; exact chgB_256 (by omega)
  have hs' : (⟨{ s.c.chg [82, 79, 76] s.c.A with A := y }, b1⟩ : St) = s' := by rw [← hs, ← hb1]; simp [impL, hy]
  have Hhs' := Lib.hid hs'
  clear hs hs'
  have Hb1 := Lib.hid hb1
  have Hy := Lib.hid hy
  clear hb1 hy
  go_enter Tryz.func108, Tryz.ntmps108
  go_wp2_with fail
  refine (p.idle (by omega) (s' := ⟨s.c, b1⟩) (by rw [← Hb1.out]; rfl)).mono ?_
  rintro e w1 ⟨rfl, p2⟩
  obtain ⟨g0, g1, g2, g3, g4, g5, g6, g7, g8, g9, g10, g11, g12, g13, g15, gf⟩ := p2.cells
  rw [hk] at g12
  rw [hm] at g13
  go_wp2_with fail
  refine (p2.remade_ROL hk s.c.A hA (by omega) Hy.out rfl).mono ?_
  rintro e w3 ⟨rfl, p4⟩
  clear g0 g1 g2 g3 g4 g5 g6 g7 g8 g9 g10 g11 g12 g13 g15 gf
  clear p2
  obtain ⟨g0, g1, g2, g3, g4, g5, g6, g7, g8, g9, g10, g11, g12, g13, g15, gf⟩ := p4.cells
  rw [hk] at g12
  go_wp2
  (try simp only [Exit.inBlock, Exit.then])
  first | refine bodyPost_ret (results_none rfl _ _ _) rfl ?_ | refine bodyPost_end (results_none rfl _ _ _) rfl ?_
  refine ⟨rfl, ?_⟩
  exact p4.setA _ y rfl yb Hhs'.out

set_option maxRecDepth 100000 in
theorem Play.acc_LSR {F : Nat → Prop} {w W : World} {P : Nat} {o : Option Nat} {k : OpK} {s : St} {N : Nat} (p : Play F w W P o k s N) (hk : k.nm = ⟨#[76, 83, 82]⟩) (hm : k.md = 1) (hN : N ≤ 88) {s' : St} (hs : ⟨impL s.c [76, 83, 82] 1, s.b.rd s.c.PC⟩ = s') :
    Calls Tryz.prog 108 #[.pointer (some ⟨P, 0, none⟩)] W fun e w' => e = .returned (.tuple #[]) ∧ Play F w w' P o k s' (N + 1) := by
  obtain ⟨hA, hX, hY, hS, hP⟩ := p.pl.ok
  obtain ⟨b1, hb1⟩ : ∃ r_, s.b.rd s.c.PC = r_ := ⟨_, rfl⟩
  obtain ⟨y, hy⟩ : ∃ r_, chgB [76, 83, 82] s.c.A s.c.C = r_ := ⟨_, rfl⟩
  have yb : y < 256 := by rw [← hy]; exact chgB_256 (by omega)
  have hs' : (⟨{ s.c.chg [76, 83, 82] s.c.A with A := y }, b1⟩ : St) = s' := by rw [← hs, ← hb1]; simp [impL, hy]
  have Hhs' := Lib.hid hs'
  clear hs hs'
  have Hb1 := Lib.hid hb1
  have Hy := Lib.hid hy
  clear hb1 hy
  go_enter Tryz.func108, Tryz.ntmps108
  go_wp2_with fail
  refine (p.idle (by omega) (s' := ⟨s.c, b1⟩) (by rw [← Hb1.out]; rfl)).mono ?_
  rintro e w1 ⟨rfl, p2⟩
  obtain ⟨g0, g1, g2, g3, g4, g5, g6, g7, g8, g9, g10, g11, g12, g13, g15, gf⟩ := p2.cells
  rw [hk] at g12
  rw [hm] at g13
  go_wp2_with fail
  refine (p2.remade_LSR hk s.c.A hA (by omega) Hy.out rfl).mono ?_
  rintro e w3 ⟨rfl, p4⟩
  clear g0 g1 g2 g3 g4 g5 g6 g7 g8 g9 g10 g11 g12 g13 g15 gf
  clear p2
  obtain ⟨g0, g1, g2, g3, g4, g5, g6, g7, g8, g9, g10, g11, g12, g13, g15, gf⟩ := p4.cells
  rw [hk] at g12
  go_wp2
  (try simp only [Exit.inBlock, Exit.then])
  first | refine bodyPost_ret (results_none rfl _ _ _) rfl ?_ | refine bodyPost_end (results_none rfl _ _ _) rfl ?_
  refine ⟨rfl, ?_⟩
  exact p4.setA _ y rfl yb Hhs'.out

set_option maxRecDepth 100000 in
theorem Play.acc_ROR {F : Nat → Prop} {w W : World} {P : Nat} {o : Option Nat} {k : OpK} {s : St} {N : Nat} (p : Play F w W P o k s N) (hk : k.nm = ⟨#[82, 79, 82]⟩) (hm : k.md = 1) (hN : N ≤ 88) {s' : St} (hs : ⟨impL s.c [82, 79, 82] 1, s.b.rd s.c.PC⟩ = s') :
    Calls Tryz.prog 108 #[.pointer (some ⟨P, 0, none⟩)] W fun e w' => e = .returned (.tuple #[]) ∧ Play F w w' P o k s' (N + 1) := by
  obtain ⟨hA, hX, hY, hS, hP⟩ := p.pl.ok
  obtain ⟨b1, hb1⟩ : ∃ r_, s.b.rd s.c.PC = r_ := ⟨_, rfl⟩
  obtain ⟨y, hy⟩ : ∃ r_, chgB [82, 79, 82] s.c.A s.c.C = r_ := ⟨_, rfl⟩
  have yb : y < 256 := by rw [← hy]; exact chgB_256 (by omega)
  have hs' : (⟨{ s.c.chg [82, 79, 82] s.c.A with A := y }, b1⟩ : St) = s' := by rw [← hs, ← hb1]; simp [impL, hy]
  have Hhs' := Lib.hid hs'
  clear hs hs'
  have Hb1 := Lib.hid hb1
  have Hy := Lib.hid hy
  clear hb1 hy
  go_enter Tryz.func108, Tryz.ntmps108
  go_wp2_with fail
  refine (p.idle (by omega) (s' := ⟨s.c, b1⟩) (by rw [← Hb1.out]; rfl)).mono ?_
  rintro e w1 ⟨rfl, p2⟩
  obtain ⟨g0, g1, g2, g3, g4, g5, g6, g7, g8, g9, g10, g11, g12, g13, g15, gf⟩ := p2.cells
  rw [hk] at g12
  rw [hm] at g13
  go_wp2_with fail
  refine (p2.remade_ROR hk s.c.A hA (by omega) Hy.out rfl).mono ?_
  rintro e w3 ⟨rfl, p4⟩
  clear g0 g1 g2 g3 g4 g5 g6 g7 g8 g9 g10 g11 g12 g13 g15 gf
  clear p2
  obtain ⟨g0, g1, g2, g3, g4, g5, g6, g7, g8, g9, g10, g11, g12, g13, g15, gf⟩ := p4.cells
  rw [hk] at g12
  go_wp2
  (try simp only [Exit.inBlock, Exit.then])
  first | refine bodyPost_ret (results_none rfl _ _ _) rfl ?_ | refine bodyPost_end (results_none rfl _ _ _) rfl ?_
  refine ⟨rfl, ?_⟩
  exact p4.setA _ y rfl yb Hhs'.out

end Go.Proofs.YtblchdmemhhcbaaGreat
