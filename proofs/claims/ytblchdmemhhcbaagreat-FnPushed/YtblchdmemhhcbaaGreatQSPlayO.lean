/-
  Contracts over the program: what a player plays at jumps, at the stack and at BRK.
-/
import Derived.Test.YtblchdmemhhcbaaGreatQSPlayI
import Derived.Test.YtblchdmemhhcbaaGreatQSPlayNum3
namespace Go.Proofs.YtblchdmemhhcbaaGreat
set_option linter.unusedVariables false
set_option linter.unusedSimpArgs false
open Go.RowKit

set_option maxRecDepth 100000 in
theorem Play.jump_ind {F : Nat → Prop} {w W : World} {P : Nat} {o : Option Nat} {k : OpK} {s : St} {N : Nat} (p : Play F w W P o k s N) (hm : k.md = 9) (hN : N ≤ 82) {s' : St} (hs : s.jumpP 9 = s') :
    Calls Tryz.prog 113 #[.pointer (some ⟨P, 0, none⟩)] W fun e w' => e = .returned (.tuple #[]) ∧ Play F w w' P o k s' (N + 4) := by
  obtain ⟨hA, hX, hY, hS, hP⟩ := p.pl.ok
  obtain ⟨z1, hz1⟩ : ∃ r_, s.fetchW.1 = r_ := ⟨_, rfl⟩
  obtain ⟨s1, hs1⟩ : ∃ r_, s.fetchW.2 = r_ := ⟨_, rfl⟩
  have z1b : z1 < 65536 := by rw [← hz1]; exact word_lt (p.byte _) (p.byte_fetch _)
  obtain ⟨z2, hz2⟩ : ∃ r_, (s1.readW z1).1 = r_ := ⟨_, rfl⟩
  obtain ⟨s2, hs2⟩ : ∃ r_, (s1.readW z1).2 = r_ := ⟨_, rfl⟩
  have hs' : (⟨{ s2.c with PC := z2 }, s2.b⟩ : St) = s' := by rw [← hs, ← hs2, ← hz2, ← hs1, ← hz1]; rfl
  have Hhs' := Lib.hid hs'
  clear hs hs'
  have Hz1 := Lib.hid hz1
  have Hs1 := Lib.hid hs1
  have Hz2 := Lib.hid hz2
  have Hs2 := Lib.hid hs2
  clear hz1 hs1 hz2 hs2
  go_enter Tryz.func113, Tryz.ntmps113
  go_wp2_with fail
  refine (p.fetchW (by omega) Hz1.out Hs1.out).mono ?_
  rintro e w1 ⟨rfl, p2⟩
  obtain ⟨g0, g1, g2, g3, g4, g5, g6, g7, g8, g9, g10, g11, g12, g13, g15, gf⟩ := p2.cells
  rw [hm] at g13
  have z2b : z2 < 65536 := by rw [← Hz2.out]; exact word_lt (p2.byte _) (p2.byte _)
  go_wp2_with fail
  refine (p2.readW _ z1 rfl z1b (by omega) Hz2.out Hs2.out).mono ?_
  rintro e w3 ⟨rfl, p4⟩
  clear g0 g1 g2 g3 g4 g5 g6 g7 g8 g9 g10 g11 g12 g13 g15 gf
  clear p2
  obtain ⟨g0, g1, g2, g3, g4, g5, g6, g7, g8, g9, g10, g11, g12, g13, g15, gf⟩ := p4.cells
  go_wp2
  (try simp only [Exit.inBlock, Exit.then])
  first | refine bodyPost_ret (results_none rfl _ _ _) rfl ?_ | refine bodyPost_end (results_none rfl _ _ _) rfl ?_
  refine ⟨rfl, ?_⟩
  exact p4.setPC _ z2 rfl z2b Hhs'.out

set_option maxRecDepth 100000 in
theorem Play.jump_abs {F : Nat → Prop} {w W : World} {P : Nat} {o : Option Nat} {k : OpK} {s : St} {N : Nat} (p : Play F w W P o k s N) (hm : k.md = 6) (hN : N ≤ 86) {s' : St} (hs : s.jumpP 6 = s') :
    Calls Tryz.prog 113 #[.pointer (some ⟨P, 0, none⟩)] W fun e w' => e = .returned (.tuple #[]) ∧ Play F w w' P o k s' (N + 2) := by
  obtain ⟨hA, hX, hY, hS, hP⟩ := p.pl.ok
  obtain ⟨z1, hz1⟩ : ∃ r_, s.fetchW.1 = r_ := ⟨_, rfl⟩
  obtain ⟨s1, hs1⟩ : ∃ r_, s.fetchW.2 = r_ := ⟨_, rfl⟩
  have z1b : z1 < 65536 := by rw [← hz1]; exact word_lt (p.byte _) (p.byte_fetch _)
  have hs' : (⟨{ s1.c with PC := z1 }, s1.b⟩ : St) = s' := by rw [← hs, ← hs1, ← hz1]; rfl
  have Hhs' := Lib.hid hs'
  clear hs hs'
  have Hz1 := Lib.hid hz1
  have Hs1 := Lib.hid hs1
  clear hz1 hs1
  go_enter Tryz.func113, Tryz.ntmps113
  go_wp2_with fail
  refine (p.fetchW (by omega) Hz1.out Hs1.out).mono ?_
  rintro e w1 ⟨rfl, p2⟩
  obtain ⟨g0, g1, g2, g3, g4, g5, g6, g7, g8, g9, g10, g11, g12, g13, g15, gf⟩ := p2.cells
  rw [hm] at g13
  go_wp2
  (try simp only [Exit.inBlock, Exit.then])
  first | refine bodyPost_ret (results_none rfl _ _ _) rfl ?_ | refine bodyPost_end (results_none rfl _ _ _) rfl ?_
  refine ⟨rfl, ?_⟩
  exact p2.setPC _ z1 rfl z1b Hhs'.out

set_option maxRecDepth 100000 in
theorem Play.playSub {F : Nat → Prop} {w W : World} {P : Nat} {o : Option Nat} {k : OpK} {s : St} {N : Nat} (p : Play F w W P o k s N) (hN : N ≤ 80) {s' : St} (hs : s.subP = s') :
    Calls Tryz.prog 114 #[.pointer (some ⟨P, 0, none⟩)] W fun e w' => e = .returned (.tuple #[]) ∧ Play F w w' P o k s' (N + 5) := by
  obtain ⟨hA, hX, hY, hS, hP⟩ := p.pl.ok
  obtain ⟨z1, hz1⟩ : ∃ r_, s.fetch.1 = r_ := ⟨_, rfl⟩
  obtain ⟨s1, hs1⟩ : ∃ r_, s.fetch.2 = r_ := ⟨_, rfl⟩
  obtain ⟨s2, hs2⟩ : ∃ r_, s1.idleStk = r_ := ⟨_, rfl⟩
  obtain ⟨s3, hs3⟩ : ∃ r_, s2.pushPC = r_ := ⟨_, rfl⟩
  obtain ⟨q, hq⟩ : ∃ r_, s3.c.PC = r_ := ⟨_, rfl⟩
  obtain ⟨z2, hz2⟩ : ∃ r_, s3.b.get q = r_ := ⟨_, rfl⟩
  obtain ⟨b4, hb4⟩ : ∃ r_, s3.b.rd q = r_ := ⟨_, rfl⟩
  obtain ⟨x, hx⟩ : ∃ r_, word z1 z2 = r_ := ⟨_, rfl⟩
  have z1b : z1 < 256 := by rw [← hz1]; exact p.byte _
  have hs' : (⟨{ s3.c with PC := x }, b4⟩ : St) = s' := by rw [← hs, ← hx, ← hb4, ← hz2, ← hq, ← hs3, ← hs2, ← hs1, ← hz1]; rfl
  have Hhs' := Lib.hid hs'
  clear hs hs'
  have Hz1 := Lib.hid hz1
  have Hs1 := Lib.hid hs1
  have Hs2 := Lib.hid hs2
  have Hs3 := Lib.hid hs3
  have Hq := Lib.hid hq
  have Hz2 := Lib.hid hz2
  have Hb4 := Lib.hid hb4
  have Hx := Lib.hid hx
  clear hz1 hs1 hs2 hs3 hq hz2 hb4 hx
  obtain ⟨hm0, hm1⟩ := methR
  rcases o with _ | B
  · go_enter Tryz.func114, Tryz.ntmps114
    go_wp2_with fail
    refine (p.fetch (by omega) Hz1.out Hs1.out).mono ?_
    rintro e w1 ⟨rfl, p2⟩
    go_wp2_with fail
    refine (p2.idleStk (by omega) Hs2.out).mono ?_
    rintro e w3 ⟨rfl, p4⟩
    clear p2
    go_wp2_with fail
    refine (p4.pushPC (by omega) Hs3.out).mono ?_
    rintro e w5 ⟨rfl, p6⟩
    clear p4
    have qb : q < 65536 := by rw [← Hq.out]; exact p6.pl.ok.2.2.2.2
    have z2b : z2 < 256 := by rw [← Hz2.out]; exact p6.byte _
    have xb : x < 65536 := by rw [← Hx.out]; exact word_lt z1b z2b
    obtain ⟨g0, g1, g2, g3, g4, g5, g6, g7, g8, g9, g10, g11, g12, g13, g15, gf⟩ := p6.cells
    rw [Hq.out] at g4
    go_wp2_with fail
    go_still_tail 11, (by kernel_rfl)
    change wpList _ _ _ _ _ w5.drew
    have p7 := p6.drew
    clear g0 g1 g2 g3 g4 g5 g6 g7 g8 g9 g10 g11 g12 g13 g15 gf
    clear p6
    generalize w5.drew = W8 at p7 ⊢
    go_wp2_with fail
    refine (p7.read _ q rfl qb (by omega) Hz2.out (s' := ⟨s3.c, b4⟩) (by rw [← Hb4.out])).mono ?_
    rintro e w9 ⟨rfl, p10⟩
    clear p7
    go_wp2_with fail
    refine (wordOf_at z1 z2 z1b z2b Hx.out _).mono ?_
    rintro e w11 ⟨rfl, rfl⟩
    obtain ⟨g0, g1, g2, g3, g4, g5, g6, g7, g8, g9, g10, g11, g12, g13, g15, gf⟩ := p10.cells
    go_wp2
    (try simp only [Exit.inBlock, Exit.then])
    first | refine bodyPost_ret (results_none rfl _ _ _) rfl ?_ | refine bodyPost_end (results_none rfl _ _ _) rfl ?_
    refine ⟨rfl, ?_⟩
    exact p10.setPC _ x rfl xb Hhs'.out
  · go_enter Tryz.func114, Tryz.ntmps114
    go_wp2_with fail
    refine (p.fetch (by omega) Hz1.out Hs1.out).mono ?_
    rintro e w1 ⟨rfl, p2⟩
    go_wp2_with fail
    refine (p2.idleStk (by omega) Hs2.out).mono ?_
    rintro e w3 ⟨rfl, p4⟩
    clear p2
    go_wp2_with fail
    refine (p4.pushPC (by omega) Hs3.out).mono ?_
    rintro e w5 ⟨rfl, p6⟩
    clear p4
    have qb : q < 65536 := by rw [← Hq.out]; exact p6.pl.ok.2.2.2.2
    have z2b : z2 < 256 := by rw [← Hz2.out]; exact p6.byte _
    have xb : x < 65536 := by rw [← Hx.out]; exact word_lt z1b z2b
    obtain ⟨g0, g1, g2, g3, g4, g5, g6, g7, g8, g9, g10, g11, g12, g13, g15, gf⟩ := p6.cells
    rw [Hq.out] at g4
    go_wp2_with fail
    go_still_tail 11, (by kernel_rfl)
    change wpList _ _ _ _ _ w5.drew
    have p7 := p6.drew
    clear g0 g1 g2 g3 g4 g5 g6 g7 g8 g9 g10 g11 g12 g13 g15 gf
    clear p6
    generalize w5.drew = W8 at p7 ⊢
    go_wp2_with fail
    refine (p7.read _ q rfl qb (by omega) Hz2.out (s' := ⟨s3.c, b4⟩) (by rw [← Hb4.out])).mono ?_
    rintro e w9 ⟨rfl, p10⟩
    clear p7
    go_wp2_with fail
    refine (wordOf_at z1 z2 z1b z2b Hx.out _).mono ?_
    rintro e w11 ⟨rfl, rfl⟩
    obtain ⟨g0, g1, g2, g3, g4, g5, g6, g7, g8, g9, g10, g11, g12, g13, g15, gf⟩ := p10.cells
    go_wp2
    (try simp only [Exit.inBlock, Exit.then])
    first | refine bodyPost_ret (results_none rfl _ _ _) rfl ?_ | refine bodyPost_end (results_none rfl _ _ _) rfl ?_
    refine ⟨rfl, ?_⟩
    exact p10.setPC _ x rfl xb Hhs'.out

set_option maxRecDepth 100000 in
theorem Play.playBack {F : Nat → Prop} {w W : World} {P : Nat} {o : Option Nat} {k : OpK} {s : St} {N : Nat} (p : Play F w W P o k s N) (hN : N ≤ 80) {s' : St} (hs : s.backP = s') :
    Calls Tryz.prog 115 #[.pointer (some ⟨P, 0, none⟩)] W fun e w' => e = .returned (.tuple #[]) ∧ Play F w w' P o k s' (N + 5) := by
  obtain ⟨hA, hX, hY, hS, hP⟩ := p.pl.ok
  obtain ⟨s1, hs1⟩ : ∃ r_, s.idle = r_ := ⟨_, rfl⟩
  obtain ⟨s2, hs2⟩ : ∃ r_, s1.idleStk = r_ := ⟨_, rfl⟩
  obtain ⟨s3, hs3⟩ : ∃ r_, s2.pullPC = r_ := ⟨_, rfl⟩
  obtain ⟨s4, hs4⟩ : ∃ r_, s3.fetch.2 = r_ := ⟨_, rfl⟩
  have hs' : s4 = s' := by rw [← hs, ← hs4, ← hs3, ← hs2, ← hs1]; rfl
  subst hs'
  clear hs
  have Hs1 := Lib.hid hs1
  have Hs2 := Lib.hid hs2
  have Hs3 := Lib.hid hs3
  have Hs4 := Lib.hid hs4
  clear hs1 hs2 hs3 hs4
  go_enter Tryz.func115, Tryz.ntmps115
  go_wp2_with fail
  refine (p.idle (by omega) Hs1.out).mono ?_
  rintro e w1 ⟨rfl, p2⟩
  go_wp2_with fail
  refine (p2.idleStk (by omega) Hs2.out).mono ?_
  rintro e w3 ⟨rfl, p4⟩
  clear p2
  go_wp2_with fail
  refine (p4.pullPC (by omega) Hs3.out).mono ?_
  rintro e w5 ⟨rfl, p6⟩
  clear p4
  go_wp2_with fail
  refine (p6.fetch (by omega) rfl Hs4.out).mono ?_
  rintro e w7 ⟨rfl, p8⟩
  clear p6
  go_wp2
  (try simp only [Exit.inBlock, Exit.then])
  first | refine bodyPost_ret (results_none rfl _ _ _) rfl ?_ | refine bodyPost_end (results_none rfl _ _ _) rfl ?_
  refine ⟨rfl, ?_⟩
  exact p8

set_option maxRecDepth 100000 in
theorem Play.playRti {F : Nat → Prop} {w W : World} {P : Nat} {o : Option Nat} {k : OpK} {s : St} {N : Nat} (p : Play F w W P o k s N) (hN : N ≤ 80) {s' : St} (hs : s.rtiP = s') :
    Calls Tryz.prog 116 #[.pointer (some ⟨P, 0, none⟩)] W fun e w' => e = .returned (.tuple #[]) ∧ Play F w w' P o k s' (N + 5) := by
  obtain ⟨hA, hX, hY, hS, hP⟩ := p.pl.ok
  obtain ⟨s1, hs1⟩ : ∃ r_, s.idle = r_ := ⟨_, rfl⟩
  obtain ⟨s2, hs2⟩ : ∃ r_, s1.idleStk = r_ := ⟨_, rfl⟩
  obtain ⟨d, hd⟩ : ∃ r_, s2.pull.1 = r_ := ⟨_, rfl⟩
  obtain ⟨s3, hs3⟩ : ∃ r_, s2.pull.2 = r_ := ⟨_, rfl⟩
  obtain ⟨s4, hs4⟩ : ∃ r_, (⟨s3.c.unpack d, s3.b⟩ : St) = r_ := ⟨_, rfl⟩
  obtain ⟨s5, hs5⟩ : ∃ r_, s4.pullPC = r_ := ⟨_, rfl⟩
  have hs' : s5 = s' := by rw [← hs, ← hs5, ← hs4, ← hs3, ← hd, ← hs2, ← hs1]; rfl
  subst hs'
  clear hs
  have Hs1 := Lib.hid hs1
  have Hs2 := Lib.hid hs2
  have Hd := Lib.hid hd
  have Hs3 := Lib.hid hs3
  have Hs4 := Lib.hid hs4
  have Hs5 := Lib.hid hs5
  clear hs1 hs2 hd hs3 hs4 hs5
  go_enter Tryz.func116, Tryz.ntmps116
  go_wp2_with fail
  refine (p.idle (by omega) Hs1.out).mono ?_
  rintro e w1 ⟨rfl, p2⟩
  go_wp2_with fail
  refine (p2.idleStk (by omega) Hs2.out).mono ?_
  rintro e w3 ⟨rfl, p4⟩
  clear p2
  go_wp2_with fail
  refine (p4.pull (by omega) Hd.out Hs3.out).mono ?_
  rintro e w5 ⟨rfl, p6⟩
  clear p4
  go_wp2_with fail
  refine (implUnpackP_any _ _).mono ?_
  rintro e w7 ⟨rfl, d8⟩
  have p9 := p6.below d8
  clear d8 p6
  obtain ⟨g0, g1, g2, g3, g4, g5, g6, g7, g8, g9, g10, g11, g12, g13, g15, gf⟩ := p9.cells
  go_wp2_with fail
  have p10 := p9.flags (hasB d 128) (hasB d 64) (hasB d 8) (hasB d 4) (hasB d 2) (hasB d 1) (s' := s4) Hs4.out
  clear g0 g1 g2 g3 g4 g5 g6 g7 g8 g9 g10 g11 g12 g13 g15 gf
  clear p9
  generalize ((((((w7.setCell ⟨P, 5, none⟩ (.bool (hasB d 128))).setCell ⟨P, 6, none⟩ (.bool (hasB d 64))).setCell ⟨P, 7, none⟩ (.bool (hasB d 8))).setCell ⟨P, 8, none⟩ (.bool (hasB d 4))).setCell ⟨P, 9, none⟩ (.bool (hasB d 2))).setCell ⟨P, 10, none⟩ (.bool (hasB d 1))) = W11 at p10 ⊢
  refine (p10.pullPC (by omega) Hs5.out).mono ?_
  rintro e w12 ⟨rfl, p13⟩
  clear p10
  go_wp2
  (try simp only [Exit.inBlock, Exit.then])
  first | refine bodyPost_ret (results_none rfl _ _ _) rfl ?_ | refine bodyPost_end (results_none rfl _ _ _) rfl ?_
  refine ⟨rfl, ?_⟩
  exact p13

set_option maxRecDepth 100000 in
theorem Play.playBrk {F : Nat → Prop} {w W : World} {P : Nat} {o : Option Nat} {k : OpK} {s : St} {N : Nat} (p : Play F w W P o k s N) (hN : N ≤ 78) {s' : St} (hs : s.brkP = s') :
    Calls Tryz.prog 117 #[.pointer (some ⟨P, 0, none⟩)] W fun e w' => e = .returned (.tuple #[]) ∧ Play F w w' P o k s' (N + 6) := by
  obtain ⟨hA, hX, hY, hS, hP⟩ := p.pl.ok
  obtain ⟨s1, hs1⟩ : ∃ r_, s.fetch.2 = r_ := ⟨_, rfl⟩
  have hs' : s1.inter 65534 true = s' := by rw [← hs, ← hs1]; rfl
  have Hhs' := Lib.hid hs'
  clear hs hs'
  have Hs1 := Lib.hid hs1
  clear hs1
  go_enter Tryz.func117, Tryz.ntmps117
  go_wp2_with fail
  refine (p.fetch (by omega) rfl Hs1.out).mono ?_
  rintro e w1 ⟨rfl, p2⟩
  go_wp2_with fail
  refine (p2.inter 65534 (by omega) true (by omega) Hhs'.out).mono ?_
  rintro e w3 ⟨rfl, p4⟩
  clear p2
  go_wp2
  (try simp only [Exit.inBlock, Exit.then])
  first | refine bodyPost_ret (results_none rfl _ _ _) rfl ?_ | refine bodyPost_end (results_none rfl _ _ _) rfl ?_
  refine ⟨rfl, ?_⟩
  exact p4

set_option maxRecDepth 100000 in
theorem Play.push_PHP {F : Nat → Prop} {w W : World} {P : Nat} {o : Option Nat} {k : OpK} {s : St} {N : Nat} (p : Play F w W P o k s N) (hk : k.nm = ⟨#[80, 72, 80]⟩) (hN : N ≤ 86) {s' : St} (hs : s.pushP [80, 72, 80] = s') :
    Calls Tryz.prog 118 #[.pointer (some ⟨P, 0, none⟩)] W fun e w' => e = .returned (.tuple #[]) ∧ Play F w w' P o k s' (N + 2) := by
  obtain ⟨hA, hX, hY, hS, hP⟩ := p.pl.ok
  obtain ⟨s1, hs1⟩ : ∃ r_, s.idle = r_ := ⟨_, rfl⟩
  obtain ⟨d, hd⟩ : ∃ r_, s1.c.pk true = r_ := ⟨_, rfl⟩
  have hs' : s1.push d = s' := by rw [← hs, ← hd, ← hs1]; simp [St.pushP]
  have hd' : pkV s1.c.N s1.c.V true s1.c.D s1.c.I s1.c.Z s1.c.C = (d : Int) := by rw [← hd]; have := (pkV_bd s1.c.N s1.c.V true s1.c.D s1.c.I s1.c.Z s1.c.C).1; unfold CpuN.pk; omega
  have db : d < 256 := by have := (pkV_bd s1.c.N s1.c.V true s1.c.D s1.c.I s1.c.Z s1.c.C).2; omega
  have HD := Lib.hid hd'
  clear hd'
  have Hhs' := Lib.hid hs'
  clear hs hs'
  have Hs1 := Lib.hid hs1
  have Hd := Lib.hid hd
  clear hs1 hd
  go_enter Tryz.func118, Tryz.ntmps118
  go_wp2_with fail
  refine (p.idle (by omega) Hs1.out).mono ?_
  rintro e w1 ⟨rfl, p2⟩
  obtain ⟨g0, g1, g2, g3, g4, g5, g6, g7, g8, g9, g10, g11, g12, g13, g15, gf⟩ := p2.cells
  rw [hk] at g12
  go_wp2_with fail
  refine (implPackP_any _ _ _ _ _ _ _ _).mono ?_
  rintro e w3 ⟨rfl, d4⟩
  have p5 := p2.below d4
  clear g0 g1 g2 g3 g4 g5 g6 g7 g8 g9 g10 g11 g12 g13 g15 gf
  clear d4 p2
  rw [HD.out]
  go_wp2_with fail
  refine (p5.push _ d rfl db (by omega) Hhs'.out).mono ?_
  rintro e w6 ⟨rfl, p7⟩
  clear p5
  go_wp2
  (try simp only [Exit.inBlock, Exit.then])
  first | refine bodyPost_ret (results_none rfl _ _ _) rfl ?_ | refine bodyPost_end (results_none rfl _ _ _) rfl ?_
  refine ⟨rfl, ?_⟩
  exact p7

set_option maxRecDepth 100000 in
theorem Play.push_PHA {F : Nat → Prop} {w W : World} {P : Nat} {o : Option Nat} {k : OpK} {s : St} {N : Nat} (p : Play F w W P o k s N) (hk : k.nm = ⟨#[80, 72, 65]⟩) (hN : N ≤ 86) {s' : St} (hs : s.pushP [80, 72, 65] = s') :
    Calls Tryz.prog 118 #[.pointer (some ⟨P, 0, none⟩)] W fun e w' => e = .returned (.tuple #[]) ∧ Play F w w' P o k s' (N + 2) := by
  obtain ⟨hA, hX, hY, hS, hP⟩ := p.pl.ok
  obtain ⟨s1, hs1⟩ : ∃ r_, s.idle = r_ := ⟨_, rfl⟩
  obtain ⟨d, hd⟩ : ∃ r_, s1.c.A = r_ := ⟨_, rfl⟩
  have hs' : s1.push d = s' := by rw [← hs, ← hd, ← hs1]; simp [St.pushP]
  have db : d < 256 := by rw [← hd, ← hs1]; exact hA
  have Hhs' := Lib.hid hs'
  clear hs hs'
  have Hs1 := Lib.hid hs1
  have Hd := Lib.hid hd
  clear hs1 hd
  go_enter Tryz.func118, Tryz.ntmps118
  go_wp2_with fail
  refine (p.idle (by omega) Hs1.out).mono ?_
  rintro e w1 ⟨rfl, p2⟩
  obtain ⟨g0, g1, g2, g3, g4, g5, g6, g7, g8, g9, g10, g11, g12, g13, g15, gf⟩ := p2.cells
  rw [hk] at g12
  rw [Hd.out] at g0
  go_wp2_with fail
  refine (p2.push _ d rfl db (by omega) Hhs'.out).mono ?_
  rintro e w3 ⟨rfl, p4⟩
  clear g0 g1 g2 g3 g4 g5 g6 g7 g8 g9 g10 g11 g12 g13 g15 gf
  clear p2
  go_wp2
  (try simp only [Exit.inBlock, Exit.then])
  first | refine bodyPost_ret (results_none rfl _ _ _) rfl ?_ | refine bodyPost_end (results_none rfl _ _ _) rfl ?_
  refine ⟨rfl, ?_⟩
  exact p4

set_option maxRecDepth 100000 in
theorem Play.pull_PLP {F : Nat → Prop} {w W : World} {P : Nat} {o : Option Nat} {k : OpK} {s : St} {N : Nat} (p : Play F w W P o k s N) (hk : k.nm = ⟨#[80, 76, 80]⟩) (hN : N ≤ 84) {s' : St} (hs : s.pullP [80, 76, 80] = s') :
    Calls Tryz.prog 119 #[.pointer (some ⟨P, 0, none⟩)] W fun e w' => e = .returned (.tuple #[]) ∧ Play F w w' P o k s' (N + 3) := by
  obtain ⟨hA, hX, hY, hS, hP⟩ := p.pl.ok
  obtain ⟨s1, hs1⟩ : ∃ r_, s.idle = r_ := ⟨_, rfl⟩
  obtain ⟨s2, hs2⟩ : ∃ r_, s1.idleStk = r_ := ⟨_, rfl⟩
  obtain ⟨d, hd⟩ : ∃ r_, s2.pull.1 = r_ := ⟨_, rfl⟩
  obtain ⟨s3, hs3⟩ : ∃ r_, s2.pull.2 = r_ := ⟨_, rfl⟩
  have hs' : (⟨s3.c.unpack d, s3.b⟩ : St) = s' := by rw [← hs, ← hs3, ← hd, ← hs2, ← hs1]; simp [St.pullP]
  have Hhs' := Lib.hid hs'
  clear hs hs'
  have Hs1 := Lib.hid hs1
  have Hs2 := Lib.hid hs2
  have Hd := Lib.hid hd
  have Hs3 := Lib.hid hs3
  clear hs1 hs2 hd hs3
  go_enter Tryz.func119, Tryz.ntmps119
  go_wp2_with fail
  refine (p.idle (by omega) Hs1.out).mono ?_
  rintro e w1 ⟨rfl, p2⟩
  go_wp2_with fail
  refine (p2.idleStk (by omega) Hs2.out).mono ?_
  rintro e w3 ⟨rfl, p4⟩
  clear p2
  have db : d < 256 := by rw [← Hd.out]; exact p4.byte _
  go_wp2_with fail
  refine (p4.pull (by omega) Hd.out Hs3.out).mono ?_
  rintro e w5 ⟨rfl, p6⟩
  clear p4
  obtain ⟨g0, g1, g2, g3, g4, g5, g6, g7, g8, g9, g10, g11, g12, g13, g15, gf⟩ := p6.cells
  rw [hk] at g12
  go_wp2_with fail
  refine (implUnpackP_any _ _).mono ?_
  rintro e w7 ⟨rfl, d8⟩
  have p9 := p6.below d8
  clear g0 g1 g2 g3 g4 g5 g6 g7 g8 g9 g10 g11 g12 g13 g15 gf
  clear d8 p6
  obtain ⟨g0, g1, g2, g3, g4, g5, g6, g7, g8, g9, g10, g11, g12, g13, g15, gf⟩ := p9.cells
  go_wp2
  (try simp only [Exit.inBlock, Exit.then])
  first | refine bodyPost_ret (results_none rfl _ _ _) rfl ?_ | refine bodyPost_end (results_none rfl _ _ _) rfl ?_
  refine ⟨rfl, ?_⟩
  exact p9.flags _ _ _ _ _ _ Hhs'.out

set_option maxRecDepth 100000 in
theorem Play.pull_PLA {F : Nat → Prop} {w W : World} {P : Nat} {o : Option Nat} {k : OpK} {s : St} {N : Nat} (p : Play F w W P o k s N) (hk : k.nm = ⟨#[80, 76, 65]⟩) (hN : N ≤ 84) {s' : St} (hs : s.pullP [80, 76, 65] = s') :
    Calls Tryz.prog 119 #[.pointer (some ⟨P, 0, none⟩)] W fun e w' => e = .returned (.tuple #[]) ∧ Play F w w' P o k s' (N + 3) := by
  obtain ⟨hA, hX, hY, hS, hP⟩ := p.pl.ok
  obtain ⟨s1, hs1⟩ : ∃ r_, s.idle = r_ := ⟨_, rfl⟩
  obtain ⟨s2, hs2⟩ : ∃ r_, s1.idleStk = r_ := ⟨_, rfl⟩
  obtain ⟨d, hd⟩ : ∃ r_, s2.pull.1 = r_ := ⟨_, rfl⟩
  obtain ⟨s3, hs3⟩ : ∃ r_, s2.pull.2 = r_ := ⟨_, rfl⟩
  have hs' : (⟨{ s3.c with A := d, N := bit7 (d : Nat), Z := isZ (d : Nat) }, s3.b⟩ : St) = s' := by rw [← hs, ← hs3, ← hd, ← hs2, ← hs1]; simp [St.pullP, CpuN.nz]
  have Hhs' := Lib.hid hs'
  clear hs hs'
  have Hs1 := Lib.hid hs1
  have Hs2 := Lib.hid hs2
  have Hd := Lib.hid hd
  have Hs3 := Lib.hid hs3
  clear hs1 hs2 hd hs3
  go_enter Tryz.func119, Tryz.ntmps119
  go_wp2_with fail
  refine (p.idle (by omega) Hs1.out).mono ?_
  rintro e w1 ⟨rfl, p2⟩
  go_wp2_with fail
  refine (p2.idleStk (by omega) Hs2.out).mono ?_
  rintro e w3 ⟨rfl, p4⟩
  clear p2
  have db : d < 256 := by rw [← Hd.out]; exact p4.byte _
  go_wp2_with fail
  refine (p4.pull (by omega) Hd.out Hs3.out).mono ?_
  rintro e w5 ⟨rfl, p6⟩
  clear p4
  obtain ⟨g0, g1, g2, g3, g4, g5, g6, g7, g8, g9, g10, g11, g12, g13, g15, gf⟩ := p6.cells
  rw [hk] at g12
  go_wp2_with fail
  have p7 := p6.setA _ (d) rfl db rfl
  clear g0 g1 g2 g3 g4 g5 g6 g7 g8 g9 g10 g11 g12 g13 g15 gf
  clear p6
  generalize w5.setCell ⟨P, 0, none⟩ (.int .u8 ((d : Nat) : Int)) = W8 at p7 ⊢
  obtain ⟨g0, g1, g2, g3, g4, g5, g6, g7, g8, g9, g10, g11, g12, g13, g15, gf⟩ := p7.cells
  go_wp2_with fail
  refine (implNZ_any _ _ _ _ _ _ _ _ (by omega) (by omega)).mono ?_
  rintro e w9 ⟨rfl, d10⟩
  have p11 := p7.below d10
  clear g0 g1 g2 g3 g4 g5 g6 g7 g8 g9 g10 g11 g12 g13 g15 gf
  clear d10 p7
  obtain ⟨g0, g1, g2, g3, g4, g5, g6, g7, g8, g9, g10, g11, g12, g13, g15, gf⟩ := p11.cells
  go_wp2
  (try simp only [Exit.inBlock, Exit.then])
  first | refine bodyPost_ret (results_none rfl _ _ _) rfl ?_ | refine bodyPost_end (results_none rfl _ _ _) rfl ?_
  refine ⟨rfl, ?_⟩
  exact p11.flags _ _ _ _ _ _ Hhs'.out

end Go.Proofs.YtblchdmemhhcbaaGreat
