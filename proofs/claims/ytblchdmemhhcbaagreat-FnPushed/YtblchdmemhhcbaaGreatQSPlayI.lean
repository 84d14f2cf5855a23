/-
  Contracts over the program: an interrupt; places with a register.
-/
import Derived.Test.YtblchdmemhhcbaaGreatQSPlayB
namespace Go.Proofs.YtblchdmemhhcbaaGreat
set_option linter.unusedVariables false
set_option linter.unusedSimpArgs false
open Go.RowKit

set_option maxRecDepth 100000 in
theorem Play.fetchW {F : Nat → Prop} {w W : World} {P : Nat} {o : Option Nat} {k : OpK} {s : St} {N : Nat} (p : Play F w W P o k s N) (hN : N ≤ 86) {z : Nat} {s' : St} (hz : s.fetchW.1 = z) (hs : s.fetchW.2 = s') :
    Calls Tryz.prog 146 #[.pointer (some ⟨P, 0, none⟩)] W fun e w' => e = .returned (.int .u16 (z : Int)) ∧ Play F w w' P o k s' (N + 2) := by
  obtain ⟨hA, hX, hY, hS, hP⟩ := p.pl.ok
  obtain ⟨z1, hz1⟩ : ∃ r_, s.fetch.1 = r_ := ⟨_, rfl⟩
  obtain ⟨s1, hs1⟩ : ∃ r_, s.fetch.2 = r_ := ⟨_, rfl⟩
  obtain ⟨z2, hz2⟩ : ∃ r_, s1.fetch.1 = r_ := ⟨_, rfl⟩
  obtain ⟨s2, hs2⟩ : ∃ r_, s1.fetch.2 = r_ := ⟨_, rfl⟩
  have hz' : word z1 z2 = z := by rw [← hz, ← hz1, ← hz2, ← hs1]; rfl
  have hs' : s2 = s' := by rw [← hs, ← hs2, ← hs1]; rfl
  have z1b : z1 < 256 := by rw [← hz1]; exact p.byte _
  have Hz1 := Lib.hid hz1
  have Hs1 := Lib.hid hs1
  have Hz2 := Lib.hid hz2
  have Hs2 := Lib.hid hs2
  clear hz1 hs1 hz2 hs2
  go_enter Tryz.func146, Tryz.ntmps146
  go_wp2_with fail
  refine (p.fetch (by omega) Hz1.out Hs1.out).mono ?_
  rintro e w1 ⟨rfl, p2⟩
  have z2b : z2 < 256 := by rw [← Hz2.out]; exact p2.byte _
  go_wp2_with fail
  refine (p2.fetch (by omega) Hz2.out Hs2.out).mono ?_
  rintro e w3 ⟨rfl, p4⟩
  clear p2
  go_wp2_with fail
  refine (wordOf_at z1 z2 z1b z2b hz' _).mono ?_
  rintro e w5 ⟨rfl, rfl⟩
  go_wp2
  go_ret
  refine ⟨rfl, ?_⟩
  exact (by subst hs'; exact p4)

set_option maxRecDepth 100000 in
theorem Play.readW {F : Nat → Prop} {w W : World} {P : Nat} {o : Option Nat} {k : OpK} {s : St} {N : Nat} (p : Play F w W P o k s N) (x : Int) (a : Nat) (hx : x = (a : Int)) (ha : a < 65536) (hN : N ≤ 86) {z : Nat} {s' : St} (hz : (s.readW a).1 = z) (hs : (s.readW a).2 = s') :
    Calls Tryz.prog 135 #[.pointer (some ⟨P, 0, none⟩), .int .u16 x] W fun e w' => e = .returned (.int .u16 (z : Int)) ∧ Play F w w' P o k s' (N + 2) := by
  obtain ⟨hA, hX, hY, hS, hP⟩ := p.pl.ok
  subst hx
  obtain ⟨z1, hz1⟩ : ∃ r_, s.b.get a = r_ := ⟨_, rfl⟩
  obtain ⟨b1, hb1⟩ : ∃ r_, s.b.rd a = r_ := ⟨_, rfl⟩
  obtain ⟨a1, ha1⟩ : ∃ r_, (a + 1) % 65536 = r_ := ⟨_, rfl⟩
  obtain ⟨a2, ha2⟩ : ∃ r_, inPage a a1 = r_ := ⟨_, rfl⟩
  obtain ⟨z2, hz2⟩ : ∃ r_, b1.get a2 = r_ := ⟨_, rfl⟩
  have hz' : word z1 z2 = z := by rw [← hz, ← hz2, ← hz1, ← hb1, ← ha2, ← ha1]; rfl
  have hs' : (⟨s.c, b1.rd a2⟩ : St) = s' := by rw [← hs, ← hb1, ← ha2, ← ha1]; rfl
  have z1b : z1 < 256 := by rw [← hz1]; exact p.byte _
  have a1b : a1 < 65536 := by omega
  have a2b : a2 < 65536 := by rw [← ha2]; unfold inPage; omega
  have e1 : IntKind.u16.wrap ((a : Int) + 1) = (a1 : Int) := by rw [w16]; omega
  have Hz1 := Lib.hid hz1
  have Hb1 := Lib.hid hb1
  have Ha1 := Lib.hid ha1
  have Ha2 := Lib.hid ha2
  have Hz2 := Lib.hid hz2
  clear hz1 hb1 ha1 ha2 hz2
  obtain ⟨hm0, hm1⟩ := methR
  rcases o with _ | B
  · go_enter Tryz.func135, Tryz.ntmps135
    obtain ⟨g0, g1, g2, g3, g4, g5, g6, g7, g8, g9, g10, g11, g12, g13, g15, gf⟩ := p.cells
    go_wp2_with fail
    refine (p.read _ _ rfl ha (by omega) Hz1.out (by rw [Hb1.out])).mono ?_
    rintro e w1 ⟨rfl, p2⟩
    clear g0 g1 g2 g3 g4 g5 g6 g7 g8 g9 g10 g11 g12 g13 g15 gf
    have z2b : z2 < 256 := by rw [← Hz2.out]; exact p2.byte _
    obtain ⟨g0, g1, g2, g3, g4, g5, g6, g7, g8, g9, g10, g11, g12, g13, g15, gf⟩ := p2.cells
    go_wp2_with fail
    have p3 := p2.drew
    clear g0 g1 g2 g3 g4 g5 g6 g7 g8 g9 g10 g11 g12 g13 g15 gf
    have g11 := p3.cells.2.2.2.2.2.2.2.2.2.2.2.1
    go_region_held3 (fun w' => w'.cell? ⟨P, 11, none⟩ = some (busV none))
    (((try dsimp only); (first | (with_reducible exact g11) | (with_reducible exact p9.cells.2.2.2.2.2.2.2.2.2.2.2.1))))
    (first | (go_at_call 145; refine (inPageOf_any a a1 ha a1b Ha2.out _).mono ?_; rintro e w8 ⟨rfl, rfl⟩) | (refine (p3.read _ _ rfl a2b (by omega) Hz2.out rfl).mono ?_; rintro e w9 ⟨rfl, p9⟩))
    go_wp2_with fail
    refine (wordOf_at z1 z2 z1b z2b hz' _).mono ?_
    rintro e w4 ⟨rfl, rfl⟩
    go_wp2
    go_ret
    refine ⟨rfl, ?_⟩
    exact (by subst hs'; exact p9)
  · go_enter Tryz.func135, Tryz.ntmps135
    obtain ⟨g0, g1, g2, g3, g4, g5, g6, g7, g8, g9, g10, g11, g12, g13, g15, gf⟩ := p.cells
    go_wp2_with fail
    refine (p.read _ _ rfl ha (by omega) Hz1.out (by rw [Hb1.out])).mono ?_
    rintro e w1 ⟨rfl, p2⟩
    clear g0 g1 g2 g3 g4 g5 g6 g7 g8 g9 g10 g11 g12 g13 g15 gf
    have z2b : z2 < 256 := by rw [← Hz2.out]; exact p2.byte _
    obtain ⟨g0, g1, g2, g3, g4, g5, g6, g7, g8, g9, g10, g11, g12, g13, g15, gf⟩ := p2.cells
    go_wp2_with fail
    have p3 := p2.drew
    clear g0 g1 g2 g3 g4 g5 g6 g7 g8 g9 g10 g11 g12 g13 g15 gf
    have g11 := p3.cells.2.2.2.2.2.2.2.2.2.2.2.1
    go_region_held3 (fun w' => w'.cell? ⟨P, 11, none⟩ = some (busV (some B)))
    (((try dsimp only); (first | (with_reducible exact g11) | (with_reducible exact p9.cells.2.2.2.2.2.2.2.2.2.2.2.1))))
    (first | (go_at_call 145; refine (inPageOf_any a a1 ha a1b Ha2.out _).mono ?_; rintro e w8 ⟨rfl, rfl⟩) | (refine (p3.read _ _ rfl a2b (by omega) Hz2.out rfl).mono ?_; rintro e w9 ⟨rfl, p9⟩))
    go_wp2_with fail
    refine (wordOf_at z1 z2 z1b z2b hz' _).mono ?_
    rintro e w4 ⟨rfl, rfl⟩
    go_wp2
    go_ret
    refine ⟨rfl, ?_⟩
    exact (by subst hs'; exact p9)

end Go.Proofs.YtblchdmemhhcbaaGreat

namespace Go.Proofs.YtblchdmemhhcbaaGreat
set_option linter.unusedVariables false
set_option linter.unusedSimpArgs false
open Go.RowKit

set_option maxRecDepth 100000 in
theorem Play.idleStk {F : Nat → Prop} {w W : World} {P : Nat} {o : Option Nat} {k : OpK} {s : St} {N : Nat} (p : Play F w W P o k s N) (hN : N ≤ 88) {s' : St} (hs : s.idleStk = s') :
    Calls Tryz.prog 147 #[.pointer (some ⟨P, 0, none⟩)] W fun e w' => e = .returned (.tuple #[]) ∧ Play F w w' P o k s' (N + 1) := by
  obtain ⟨hA, hX, hY, hS, hP⟩ := p.pl.ok
  have hk : stk s.c.S < 65536 := by unfold stk; omega
  obtain ⟨hm0, hm1⟩ := methR
  rcases o with _ | B
  · go_enter Tryz.func147, Tryz.ntmps147
    obtain ⟨g0, g1, g2, g3, g4, g5, g6, g7, g8, g9, g10, g11, g12, g13, g15, gf⟩ := p.cells
    go_wp2_with fail
    have p1 := p.drew
    clear g0 g1 g2 g3 g4 g5 g6 g7 g8 g9 g10 g11 g12 g13 g15 gf
    obtain ⟨g0, g1, g2, g3, g4, g5, g6, g7, g8, g9, g10, g11, g12, g13, g15, gf⟩ := p1.cells
    go_region_held3 (fun w' => w'.cell? ⟨P, 11, none⟩ = some (busV none) ∧ w'.cell? ⟨P, 3, none⟩ = some (.int .u8 (s.c.S : Int)))
    (((try dsimp only); (first | (with_reducible exact ⟨g11, g3⟩) | (with_reducible exact hh5))))
    (first | (go_at_call 154; refine (stackAt_any _ (by omega) _).mono ?_; rintro e u2 ⟨rfl, rfl⟩) | (refine (p1.read _ _ rfl hk (by omega) rfl rfl).mono ?_; rintro e w3 ⟨rfl, p4⟩; have hh5 : w3.cell? ⟨P, 11, none⟩ = some (busV none) ∧ w3.cell? ⟨P, 3, none⟩ = some (.int .u8 (s.c.S : Int)) := ⟨p4.cells.2.2.2.2.2.2.2.2.2.2.2.1, p4.cells.2.2.2.1⟩))
    clear g0 g1 g2 g3 g4 g5 g6 g7 g8 g9 g10 g11 g12 g13 g15 gf
    clear hh5
    go_wp2
    (try simp only [Exit.inBlock, Exit.then])
    first | refine bodyPost_ret (results_none rfl _ _ _) rfl ?_ | refine bodyPost_end (results_none rfl _ _ _) rfl ?_
    refine ⟨rfl, ?_⟩
    exact (by subst hs; exact p4)
  · go_enter Tryz.func147, Tryz.ntmps147
    obtain ⟨g0, g1, g2, g3, g4, g5, g6, g7, g8, g9, g10, g11, g12, g13, g15, gf⟩ := p.cells
    go_wp2_with fail
    have p1 := p.drew
    clear g0 g1 g2 g3 g4 g5 g6 g7 g8 g9 g10 g11 g12 g13 g15 gf
    obtain ⟨g0, g1, g2, g3, g4, g5, g6, g7, g8, g9, g10, g11, g12, g13, g15, gf⟩ := p1.cells
    go_region_held3 (fun w' => w'.cell? ⟨P, 11, none⟩ = some (busV (some B)) ∧ w'.cell? ⟨P, 3, none⟩ = some (.int .u8 (s.c.S : Int)))
    (((try dsimp only); (first | (with_reducible exact ⟨g11, g3⟩) | (with_reducible exact hh5))))
    (first | (go_at_call 154; refine (stackAt_any _ (by omega) _).mono ?_; rintro e u2 ⟨rfl, rfl⟩) | (refine (p1.read _ _ rfl hk (by omega) rfl rfl).mono ?_; rintro e w3 ⟨rfl, p4⟩; have hh5 : w3.cell? ⟨P, 11, none⟩ = some (busV (some B)) ∧ w3.cell? ⟨P, 3, none⟩ = some (.int .u8 (s.c.S : Int)) := ⟨p4.cells.2.2.2.2.2.2.2.2.2.2.2.1, p4.cells.2.2.2.1⟩))
    clear g0 g1 g2 g3 g4 g5 g6 g7 g8 g9 g10 g11 g12 g13 g15 gf
    clear hh5
    go_wp2
    (try simp only [Exit.inBlock, Exit.then])
    first | refine bodyPost_ret (results_none rfl _ _ _) rfl ?_ | refine bodyPost_end (results_none rfl _ _ _) rfl ?_
    refine ⟨rfl, ?_⟩
    exact (by subst hs; exact p4)

set_option maxRecDepth 100000 in
theorem Play.push {F : Nat → Prop} {w W : World} {P : Nat} {o : Option Nat} {k : OpK} {s : St} {N : Nat} (p : Play F w W P o k s N) (x : Int) (d : Nat) (hx : x = (d : Int)) (hd : d < 256) (hN : N ≤ 88) {s' : St} (hs : s.push d = s') :
    Calls Tryz.prog 133 #[.pointer (some ⟨P, 0, none⟩), .int .u8 x] W fun e w' => e = .returned (.tuple #[]) ∧ Play F w w' P o k s' (N + 1) := by
  obtain ⟨hA, hX, hY, hS, hP⟩ := p.pl.ok
  subst hx
  have hk : stk s.c.S < 65536 := by unfold stk; omega
  obtain ⟨hm0, hm1⟩ := methW
  rcases o with _ | B
  · go_enter Tryz.func133, Tryz.ntmps133
    obtain ⟨g0, g1, g2, g3, g4, g5, g6, g7, g8, g9, g10, g11, g12, g13, g15, gf⟩ := p.cells
    go_wp2_with fail
    have p1 := p.drew
    clear g0 g1 g2 g3 g4 g5 g6 g7 g8 g9 g10 g11 g12 g13 g15 gf
    obtain ⟨g0, g1, g2, g3, g4, g5, g6, g7, g8, g9, g10, g11, g12, g13, g15, gf⟩ := p1.cells
    go_region_held3 (fun w' => w'.cell? ⟨P, 11, none⟩ = some (busV none) ∧ w'.cell? ⟨P, 3, none⟩ = some (.int .u8 (s.c.S : Int)))
    (((try dsimp only); (first | (with_reducible exact ⟨g11, g3⟩) | (with_reducible exact hh5))))
    (first | (go_at_call 154; refine (stackAt_any _ (by omega) _).mono ?_; rintro e u2 ⟨rfl, rfl⟩) | (refine (p1.write _ _ _ _ rfl rfl hk hd (by omega) rfl).mono ?_; rintro e w3 ⟨rfl, p4⟩; have hh5 : w3.cell? ⟨P, 11, none⟩ = some (busV none) ∧ w3.cell? ⟨P, 3, none⟩ = some (.int .u8 (s.c.S : Int)) := ⟨p4.cells.2.2.2.2.2.2.2.2.2.2.2.1, p4.cells.2.2.2.1⟩))
    clear g0 g1 g2 g3 g4 g5 g6 g7 g8 g9 g10 g11 g12 g13 g15 gf
    clear hh5
    obtain ⟨g0, g1, g2, g3, g4, g5, g6, g7, g8, g9, g10, g11, g12, g13, g15, gf⟩ := p4.cells
    go_wp2
    (try simp only [Exit.inBlock, Exit.then])
    first | refine bodyPost_ret (results_none rfl _ _ _) rfl ?_ | refine bodyPost_end (results_none rfl _ _ _) rfl ?_
    refine ⟨rfl, ?_⟩
    exact p4.setS _ ((s.c.S + 255) % 256) (by first | omega | (simp; omega)) (by omega) hs
  · go_enter Tryz.func133, Tryz.ntmps133
    obtain ⟨g0, g1, g2, g3, g4, g5, g6, g7, g8, g9, g10, g11, g12, g13, g15, gf⟩ := p.cells
    go_wp2_with fail
    have p1 := p.drew
    clear g0 g1 g2 g3 g4 g5 g6 g7 g8 g9 g10 g11 g12 g13 g15 gf
    obtain ⟨g0, g1, g2, g3, g4, g5, g6, g7, g8, g9, g10, g11, g12, g13, g15, gf⟩ := p1.cells
    go_region_held3 (fun w' => w'.cell? ⟨P, 11, none⟩ = some (busV (some B)) ∧ w'.cell? ⟨P, 3, none⟩ = some (.int .u8 (s.c.S : Int)))
    (((try dsimp only); (first | (with_reducible exact ⟨g11, g3⟩) | (with_reducible exact hh5))))
    (first | (go_at_call 154; refine (stackAt_any _ (by omega) _).mono ?_; rintro e u2 ⟨rfl, rfl⟩) | (refine (p1.write _ _ _ _ rfl rfl hk hd (by omega) rfl).mono ?_; rintro e w3 ⟨rfl, p4⟩; have hh5 : w3.cell? ⟨P, 11, none⟩ = some (busV (some B)) ∧ w3.cell? ⟨P, 3, none⟩ = some (.int .u8 (s.c.S : Int)) := ⟨p4.cells.2.2.2.2.2.2.2.2.2.2.2.1, p4.cells.2.2.2.1⟩))
    clear g0 g1 g2 g3 g4 g5 g6 g7 g8 g9 g10 g11 g12 g13 g15 gf
    clear hh5
    obtain ⟨g0, g1, g2, g3, g4, g5, g6, g7, g8, g9, g10, g11, g12, g13, g15, gf⟩ := p4.cells
    go_wp2
    (try simp only [Exit.inBlock, Exit.then])
    first | refine bodyPost_ret (results_none rfl _ _ _) rfl ?_ | refine bodyPost_end (results_none rfl _ _ _) rfl ?_
    refine ⟨rfl, ?_⟩
    exact p4.setS _ ((s.c.S + 255) % 256) (by first | omega | (simp; omega)) (by omega) hs

set_option maxRecDepth 100000 in
theorem Play.pull {F : Nat → Prop} {w W : World} {P : Nat} {o : Option Nat} {k : OpK} {s : St} {N : Nat} (p : Play F w W P o k s N) (hN : N ≤ 88) {z : Nat} {s' : St} (hz : s.pull.1 = z) (hs : s.pull.2 = s') :
    Calls Tryz.prog 151 #[.pointer (some ⟨P, 0, none⟩)] W fun e w' => e = .returned (.int .u8 (z : Int)) ∧ Play F w w' P o k s' (N + 1) := by
  obtain ⟨hA, hX, hY, hS, hP⟩ := p.pl.ok
  have hk : stk (s.c.S + 1) < 65536 := by unfold stk; omega
  obtain ⟨y, hy⟩ : ∃ r_, (s.c.S + 1) % 256 = r_ := ⟨_, rfl⟩
  have yb : y < 256 := by omega
  have hyy : stk y = stk (s.c.S + 1) := by unfold stk; omega
  have hz' : s.b.get (stk y) = z := by rw [hyy]; exact hz
  have hs' : (⟨{ s.c with S := y }, s.b.rd (stk y)⟩ : St) = s' := by rw [hyy, ← hy]; exact hs
  rw [← hyy] at hk
  have e3 : IntKind.u8.wrap ((s.c.S : Int) + 1) = (y : Int) := by simp [IntKind.wrap, IntKind.bits, IntKind.signed]; omega
  have HZ := Lib.hid hz'
  have HS := Lib.hid hs'
  clear hyy hz' hs' hz hs
  have Hy := Lib.hid hy
  clear hy
  obtain ⟨hm0, hm1⟩ := methR
  rcases o with _ | B
  · go_enter Tryz.func151, Tryz.ntmps151
    obtain ⟨g0, g1, g2, g3, g4, g5, g6, g7, g8, g9, g10, g11, g12, g13, g15, gf⟩ := p.cells
    go_wp2_with fail
    have p1 := p.setS _ (y) rfl (by omega) rfl
    clear g0 g1 g2 g3 g4 g5 g6 g7 g8 g9 g10 g11 g12 g13 g15 gf
    generalize W.setCell ⟨P, 3, none⟩ (.int .u8 ((y : Nat) : Int)) = W2 at p1 ⊢
    clear e3
    go_wp2_with fail
    have p3 := p1.drew
    obtain ⟨g0, g1, g2, g3, g4, g5, g6, g7, g8, g9, g10, g11, g12, g13, g15, gf⟩ := p3.cells
    go_region_held3 (fun w' => w'.cell? ⟨P, 11, none⟩ = some (busV none) ∧ w'.cell? ⟨P, 3, none⟩ = some (.int .u8 (y : Int)))
    (((try dsimp only); (first | (with_reducible exact ⟨g11, g3⟩) | (with_reducible exact hh7))))
    (first | (go_at_call 154; refine (stackAt_any _ (by omega) _).mono ?_; rintro e u4 ⟨rfl, rfl⟩) | (refine (p3.read _ _ rfl hk (by omega) HZ.out rfl).mono ?_; rintro e w5 ⟨rfl, p6⟩; have hh7 : w5.cell? ⟨P, 11, none⟩ = some (busV none) ∧ w5.cell? ⟨P, 3, none⟩ = some (.int .u8 (y : Int)) := ⟨p6.cells.2.2.2.2.2.2.2.2.2.2.2.1, p6.cells.2.2.2.1⟩))
    clear g0 g1 g2 g3 g4 g5 g6 g7 g8 g9 g10 g11 g12 g13 g15 gf
    clear hh7
    go_wp2
    go_ret
    refine ⟨rfl, ?_⟩
    exact (by rw [← HS.out]; exact p6)
  · go_enter Tryz.func151, Tryz.ntmps151
    obtain ⟨g0, g1, g2, g3, g4, g5, g6, g7, g8, g9, g10, g11, g12, g13, g15, gf⟩ := p.cells
    go_wp2_with fail
    have p1 := p.setS _ (y) rfl (by omega) rfl
    clear g0 g1 g2 g3 g4 g5 g6 g7 g8 g9 g10 g11 g12 g13 g15 gf
    generalize W.setCell ⟨P, 3, none⟩ (.int .u8 ((y : Nat) : Int)) = W2 at p1 ⊢
    clear e3
    go_wp2_with fail
    have p3 := p1.drew
    obtain ⟨g0, g1, g2, g3, g4, g5, g6, g7, g8, g9, g10, g11, g12, g13, g15, gf⟩ := p3.cells
    go_region_held3 (fun w' => w'.cell? ⟨P, 11, none⟩ = some (busV (some B)) ∧ w'.cell? ⟨P, 3, none⟩ = some (.int .u8 (y : Int)))
    (((try dsimp only); (first | (with_reducible exact ⟨g11, g3⟩) | (with_reducible exact hh7))))
    (first | (go_at_call 154; refine (stackAt_any _ (by omega) _).mono ?_; rintro e u4 ⟨rfl, rfl⟩) | (refine (p3.read _ _ rfl hk (by omega) HZ.out rfl).mono ?_; rintro e w5 ⟨rfl, p6⟩; have hh7 : w5.cell? ⟨P, 11, none⟩ = some (busV (some B)) ∧ w5.cell? ⟨P, 3, none⟩ = some (.int .u8 (y : Int)) := ⟨p6.cells.2.2.2.2.2.2.2.2.2.2.2.1, p6.cells.2.2.2.1⟩))
    clear g0 g1 g2 g3 g4 g5 g6 g7 g8 g9 g10 g11 g12 g13 g15 gf
    clear hh7
    go_wp2
    go_ret
    refine ⟨rfl, ?_⟩
    exact (by rw [← HS.out]; exact p6)

end Go.Proofs.YtblchdmemhhcbaaGreat

namespace Go.Proofs.YtblchdmemhhcbaaGreat
set_option linter.unusedVariables false
set_option linter.unusedSimpArgs false
open Go.RowKit

set_option maxRecDepth 100000 in
theorem Play.pushPC {F : Nat → Prop} {w W : World} {P : Nat} {o : Option Nat} {k : OpK} {s : St} {N : Nat} (p : Play F w W P o k s N) (hN : N ≤ 86) {s' : St} (hs : s.pushPC = s') :
    Calls Tryz.prog 132 #[.pointer (some ⟨P, 0, none⟩)] W fun e w' => e = .returned (.tuple #[]) ∧ Play F w w' P o k s' (N + 2) := by
  obtain ⟨hA, hX, hY, hS, hP⟩ := p.pl.ok
  obtain ⟨h, hh⟩ : ∃ r_, s.c.PC / 256 = r_ := ⟨_, rfl⟩
  obtain ⟨l, hl⟩ : ∃ r_, s.c.PC % 256 = r_ := ⟨_, rfl⟩
  obtain ⟨s1, hs1⟩ : ∃ r_, s.push h = r_ := ⟨_, rfl⟩
  have hb : h < 256 := by omega
  have lb : l < 256 := by omega
  have e4 : s1.c.PC = s.c.PC := by rw [← hs1]; rfl
  have hs' : s1.push l = s' := by rw [← hs, ← hs1, ← hl, ← hh]; rfl
  have Hs1 := Lib.hid hs1
  clear hs1
  go_enter Tryz.func132, Tryz.ntmps132
  obtain ⟨g0, g1, g2, g3, g4, g5, g6, g7, g8, g9, g10, g11, g12, g13, g15, gf⟩ := p.cells
  go_wp2_with fail
  refine (p.push _ h (by first | omega | (simp only [IntKind.wrap, IntKind.bits, IntKind.signed]; simp; omega)) hb (by omega) Hs1.out).mono ?_
  rintro e w1 ⟨rfl, p2⟩
  clear g0 g1 g2 g3 g4 g5 g6 g7 g8 g9 g10 g11 g12 g13 g15 gf
  obtain ⟨g0, g1, g2, g3, g4, g5, g6, g7, g8, g9, g10, g11, g12, g13, g15, gf⟩ := p2.cells
  rw [e4] at g4
  go_wp2_with fail
  refine (p2.push _ l (by first | omega | (simp only [IntKind.wrap, IntKind.bits, IntKind.signed]; simp; omega)) lb (by omega) hs').mono ?_
  rintro e w3 ⟨rfl, p4⟩
  clear g0 g1 g2 g3 g4 g5 g6 g7 g8 g9 g10 g11 g12 g13 g15 gf
  clear p2
  go_wp2
  (try simp only [Exit.inBlock, Exit.then])
  first | refine bodyPost_ret (results_none rfl _ _ _) rfl ?_ | refine bodyPost_end (results_none rfl _ _ _) rfl ?_
  refine ⟨rfl, ?_⟩
  exact p4

set_option maxRecDepth 100000 in
theorem Play.pullPC {F : Nat → Prop} {w W : World} {P : Nat} {o : Option Nat} {k : OpK} {s : St} {N : Nat} (p : Play F w W P o k s N) (hN : N ≤ 86) {s' : St} (hs : s.pullPC = s') :
    Calls Tryz.prog 149 #[.pointer (some ⟨P, 0, none⟩)] W fun e w' => e = .returned (.tuple #[]) ∧ Play F w w' P o k s' (N + 2) := by
  obtain ⟨hA, hX, hY, hS, hP⟩ := p.pl.ok
  obtain ⟨z1, hz1⟩ : ∃ r_, s.pull.1 = r_ := ⟨_, rfl⟩
  obtain ⟨s1, hs1⟩ : ∃ r_, s.pull.2 = r_ := ⟨_, rfl⟩
  obtain ⟨z2, hz2⟩ : ∃ r_, s1.pull.1 = r_ := ⟨_, rfl⟩
  obtain ⟨s2, hs2⟩ : ∃ r_, s1.pull.2 = r_ := ⟨_, rfl⟩
  obtain ⟨x, hx⟩ : ∃ r_, word z1 z2 = r_ := ⟨_, rfl⟩
  have hs' : (⟨{ s2.c with PC := x }, s2.b⟩ : St) = s' := by rw [← hs, ← hx, ← hs2, ← hz2, ← hs1, ← hz1]; rfl
  have z1b : z1 < 256 := by rw [← hz1]; exact p.byte _
  have Hz1 := Lib.hid hz1
  have Hs1 := Lib.hid hs1
  have Hz2 := Lib.hid hz2
  have Hs2 := Lib.hid hs2
  have Hx := Lib.hid hx
  clear hz1 hs1 hz2 hs2 hx
  go_enter Tryz.func149, Tryz.ntmps149
  go_wp2_with fail
  refine (p.pull (by omega) Hz1.out Hs1.out).mono ?_
  rintro e w1 ⟨rfl, p2⟩
  have z2b : z2 < 256 := by rw [← Hz2.out]; exact p2.byte _
  go_wp2_with fail
  refine (p2.pull (by omega) Hz2.out Hs2.out).mono ?_
  rintro e w3 ⟨rfl, p4⟩
  clear p2
  go_wp2_with fail
  refine (wordOf_at z1 z2 z1b z2b Hx.out _).mono ?_
  rintro e w5 ⟨rfl, rfl⟩
  have xb : x < 65536 := by rw [← Hx.out]; unfold word; omega
  obtain ⟨g0, g1, g2, g3, g4, g5, g6, g7, g8, g9, g10, g11, g12, g13, g15, gf⟩ := p4.cells
  go_wp2
  (try simp only [Exit.inBlock, Exit.then])
  first | refine bodyPost_ret (results_none rfl _ _ _) rfl ?_ | refine bodyPost_end (results_none rfl _ _ _) rfl ?_
  refine ⟨rfl, ?_⟩
  exact p4.setPC _ x rfl xb hs'

end Go.Proofs.YtblchdmemhhcbaaGreat

namespace Go.Proofs.YtblchdmemhhcbaaGreat
set_option linter.unusedVariables false
set_option linter.unusedSimpArgs false
open Go.RowKit

theorem word_lt {a b : Nat} (ha : a < 256) (hb : b < 256) : word a b < 65536 := by unfold word; omega

theorem BusO.byteRd {w : World} {F : Nat → Prop} {o : Option Nat} {b : BusN} (h : BusO w F o b) (a c : Nat) : (b.rd a).get c < 256 := h.byte c

theorem St.indexed_X (s : St) (a i : Nat) (k : Int) : (s.indexed a i k).2.c.X = s.c.X := by unfold St.indexed; dsimp only; split <;> rfl

theorem St.indexed_Y (s : St) (a i : Nat) (k : Int) : (s.indexed a i k).2.c.Y = s.c.Y := by unfold St.indexed; dsimp only; split <;> rfl

theorem Play.byte_fetch {F : Nat → Prop} {w W : World} {P : Nat} {o : Option Nat} {k : OpK} {s : St} {N : Nat} (p : Play F w W P o k s N) (a : Nat) : s.fetch.2.b.get a < 256 := p.pl.bus.byteRd _ _

theorem Play.byte_read {F : Nat → Prop} {w W : World} {P : Nat} {o : Option Nat} {k : OpK} {s : St} {N : Nat} (p : Play F w W P o k s N) (a c : Nat) : ((⟨s.c, s.fetch.2.b.rd a⟩ : St)).b.get c < 256 := p.pl.bus.byte _

set_option maxRecDepth 100000 in
theorem Play.inter {F : Nat → Prop} {w W : World} {P : Nat} {o : Option Nat} {k : OpK} {s : St} {N : Nat} (p : Play F w W P o k s N) (vec : Nat) (hv : vec < 65536) (brk : Bool) (hN : N ≤ 80) {s' : St} (hs : s.inter vec brk = s') :
    Calls Tryz.prog 94 #[.pointer (some ⟨P, 0, none⟩), .int .u16 (vec : Int), .bool brk] W fun e w' => e = .returned (.tuple #[]) ∧ Play F w w' P o k s' (N + 5) := by
  obtain ⟨hA, hX, hY, hS, hP⟩ := p.pl.ok
  obtain ⟨s1, hs1⟩ : ∃ r_, s.pushPC = r_ := ⟨_, rfl⟩
  obtain ⟨d, hd⟩ : ∃ r_, s1.c.pk brk = r_ := ⟨_, rfl⟩
  obtain ⟨s2, hs2⟩ : ∃ r_, s1.push d = r_ := ⟨_, rfl⟩
  obtain ⟨z1, hz1⟩ : ∃ r_, (s2.readW vec).1 = r_ := ⟨_, rfl⟩
  obtain ⟨s3, hs3⟩ : ∃ r_, (⟨{ s2.c with I := true }, s2.b⟩ : St) = r_ := ⟨_, rfl⟩
  obtain ⟨s4, hs4⟩ : ∃ r_, (s3.readW vec).2 = r_ := ⟨_, rfl⟩
  have hd' : pkV s1.c.N s1.c.V brk s1.c.D s1.c.I s1.c.Z s1.c.C = (d : Int) := by rw [← hd]; have := (pkV_bd s1.c.N s1.c.V brk s1.c.D s1.c.I s1.c.Z s1.c.C).1; unfold CpuN.pk; omega
  have db : d < 256 := by have := (pkV_bd s1.c.N s1.c.V brk s1.c.D s1.c.I s1.c.Z s1.c.C).2; omega
  have hz3 : (s3.readW vec).1 = z1 := by rw [← hs3, ← hz1]; rfl
  have hs' : (⟨{ s4.c with PC := z1 }, s4.b⟩ : St) = s' := by rw [← hs, ← hs4, ← hs3, ← hz1, ← hs2, ← hd, ← hs1]; rfl
  have HD := Lib.hid hd'
  have HS := Lib.hid hs'
  have HZ := Lib.hid hz3
  clear hd' hs hs' hz3
  have Hs1 := Lib.hid hs1
  have Hd := Lib.hid hd
  have Hs2 := Lib.hid hs2
  have Hz1 := Lib.hid hz1
  have Hs3 := Lib.hid hs3
  have Hs4 := Lib.hid hs4
  clear hs1 hd hs2 hz1 hs3 hs4
  go_enter Tryz.func94, Tryz.ntmps94
  go_wp2_with fail
  refine (p.pushPC (by omega) Hs1.out).mono ?_
  rintro e w1 ⟨rfl, p2⟩
  obtain ⟨g0, g1, g2, g3, g4, g5, g6, g7, g8, g9, g10, g11, g12, g13, g15, gf⟩ := p2.cells
  go_wp2_with fail
  refine (implPackP_any _ _ _ _ _ _ _ _).mono ?_
  rintro e w3 ⟨rfl, d4⟩
  have p5 := p2.below d4
  clear g0 g1 g2 g3 g4 g5 g6 g7 g8 g9 g10 g11 g12 g13 g15 gf
  clear d4 p2
  rw [HD.out]
  go_wp2_with fail
  refine (p5.push _ d rfl db (by omega) Hs2.out).mono ?_
  rintro e w6 ⟨rfl, p7⟩
  clear p5
  have z1b : z1 < 65536 := by rw [← Hz1.out]; exact word_lt (p7.byte _) (p7.pl.bus.byteRd _ _)
  obtain ⟨g0, g1, g2, g3, g4, g5, g6, g7, g8, g9, g10, g11, g12, g13, g15, gf⟩ := p7.cells
  go_wp2_with fail
  have p8 := p7.flag 8 true { s2.c with I := true } rfl rfl rfl rfl rfl rfl
  clear g0 g1 g2 g3 g4 g5 g6 g7 g8 g9 g10 g11 g12 g13 g15 gf
  clear p7
  generalize w6.setCell ⟨P, 8, none⟩ (.bool true) = W9 at p8 ⊢
  rw [Hs3.out] at p8
  go_wp2_with fail
  refine (p8.readW _ vec rfl hv (by omega) HZ.out Hs4.out).mono ?_
  rintro e w11 ⟨rfl, p12⟩
  clear p8
  obtain ⟨g0, g1, g2, g3, g4, g5, g6, g7, g8, g9, g10, g11, g12, g13, g15, gf⟩ := p12.cells
  go_wp2
  (try simp only [Exit.inBlock, Exit.then])
  first | refine bodyPost_ret (results_none rfl _ _ _) rfl ?_ | refine bodyPost_end (results_none rfl _ _ _) rfl ?_
  refine ⟨rfl, ?_⟩
  exact p12.setPC _ z1 rfl z1b HS.out

set_option maxRecDepth 100000 in
theorem Play.zero {F : Nat → Prop} {w W : World} {P : Nat} {o : Option Nat} {k : OpK} {s : St} {N : Nat} (p : Play F w W P o k s N) (x : Int) (i : Nat) (hx : x = (i : Int)) (hi : i < 256) (hN : N ≤ 86) {z : Nat} {s' : St} (hz : (s.zero i).1 = z) (hs : (s.zero i).2 = s') :
    Calls Tryz.prog 166 #[.pointer (some ⟨P, 0, none⟩), .int .u8 x] W fun e w' => e = .returned (.int .u16 (z : Int)) ∧ Play F w w' P o k s' (N + 2) := by
  obtain ⟨hA, hX, hY, hS, hP⟩ := p.pl.ok
  subst hx
  obtain ⟨z1, hz1⟩ : ∃ r_, s.fetch.1 = r_ := ⟨_, rfl⟩
  obtain ⟨s1, hs1⟩ : ∃ r_, s.fetch.2 = r_ := ⟨_, rfl⟩
  have z1b : z1 < 256 := by rw [← hz1]; exact p.byte _
  have hz' : (z1 + i) % 256 = z := by rw [← hz1]; exact hz
  have hs' : (⟨s1.c, s1.b.rd z1⟩ : St) = s' := by rw [← hs1, ← hz1]; exact hs
  have e3 : IntKind.u16.wrap (IntKind.u8.wrap ((z1 : Int) + (i : Int))) = (z : Int) := by simp [IntKind.wrap, IntKind.bits, IntKind.signed]; omega
  have HS := Lib.hid hs'
  have HZ := Lib.hid hz'
  clear hs hs' hz hz'
  have Hz1 := Lib.hid hz1
  have Hs1 := Lib.hid hs1
  clear hz1 hs1
  obtain ⟨hm0, hm1⟩ := methR
  rcases o with _ | B
  · go_enter Tryz.func166, Tryz.ntmps166
    go_wp2_with fail
    refine (p.fetch (by omega) Hz1.out Hs1.out).mono ?_
    rintro e w1 ⟨rfl, p2⟩
    obtain ⟨g0, g1, g2, g3, g4, g5, g6, g7, g8, g9, g10, g11, g12, g13, g15, gf⟩ := p2.cells
    go_wp2_with fail
    refine (p2.read _ z1 (by first | omega | (simp only [IntKind.wrap, IntKind.bits, IntKind.signed]; simp; omega)) (by omega) (by omega) rfl HS.out).mono ?_
    rintro e w3 ⟨rfl, p4⟩
    clear g0 g1 g2 g3 g4 g5 g6 g7 g8 g9 g10 g11 g12 g13 g15 gf
    clear p2
    go_wp2
    go_ret
    refine ⟨?_, p4⟩
    first | rfl | exact congrArg (fun v => Ending.returned (Value.int .u16 v)) (by have := HZ.out; first | omega | (simp only [IntKind.wrap, IntKind.bits, IntKind.signed]; simp; omega))
  · go_enter Tryz.func166, Tryz.ntmps166
    go_wp2_with fail
    refine (p.fetch (by omega) Hz1.out Hs1.out).mono ?_
    rintro e w1 ⟨rfl, p2⟩
    obtain ⟨g0, g1, g2, g3, g4, g5, g6, g7, g8, g9, g10, g11, g12, g13, g15, gf⟩ := p2.cells
    go_wp2_with fail
    refine (p2.read _ z1 (by first | omega | (simp only [IntKind.wrap, IntKind.bits, IntKind.signed]; simp; omega)) (by omega) (by omega) rfl HS.out).mono ?_
    rintro e w3 ⟨rfl, p4⟩
    clear g0 g1 g2 g3 g4 g5 g6 g7 g8 g9 g10 g11 g12 g13 g15 gf
    clear p2
    go_wp2
    go_ret
    refine ⟨?_, p4⟩
    first | rfl | exact congrArg (fun v => Ending.returned (Value.int .u16 v)) (by have := HZ.out; first | omega | (simp only [IntKind.wrap, IntKind.bits, IntKind.signed]; simp; omega))

set_option maxRecDepth 100000 in
theorem Play.indexed_same {F : Nat → Prop} {w W : World} {P : Nat} {o : Option Nat} {k : OpK} {s : St} {N : Nat} (p : Play F w W P o k s N) (a i : Nat) (ha : a < 65536) (hi : i < 256) (hc : inPage a ((a + i) % 65536) = (a + i) % 65536 ∧ k.kd = 2) (hN : N ≤ 88) {z : Nat} {s' : St} (hz : (s.indexed a i k.kd).1 = z) (hs : (s.indexed a i k.kd).2 = s') :
    Calls Tryz.prog 167 #[.pointer (some ⟨P, 0, none⟩), .int .u16 (a : Int), .int .u8 (i : Int)] W fun e w' => e = .returned (.int .u16 (z : Int)) ∧ Play F w w' P o k s' (N + 1) := by
  obtain ⟨hA, hX, hY, hS, hP⟩ := p.pl.ok
  obtain ⟨e, he⟩ : ∃ r_, (a + i) % 65536 = r_ := ⟨_, rfl⟩
  obtain ⟨y, hy⟩ : ∃ r_, inPage a e = r_ := ⟨_, rfl⟩
  have eb : e < 65536 := by omega
  have yb : y < 65536 := by rw [← hy]; unfold inPage; omega
  rw [he, hy] at hc
  have hz' : e = z := by rw [← he]; exact hz
  subst hz'
  have e3 : IntKind.u16.wrap ((a : Int) + (i : Int)) = (e : Int) := by rw [w16]; omega
  have e4 : IntKind.u16.wrap (i : Int) = (i : Int) := by rw [w16]; omega
  obtain ⟨hc1, hc2⟩ := hc
  have hs' : s = s' := by rw [← hs]; simp [St.indexed, he, hy, hc1, hc2]
  have t1 : ((y : Int) != (e : Int)) = false := by rw [hc1]; simp
  have t2 : (k.kd != 2) = false := by rw [hc2]; rfl
  have HS := Lib.hid hs'
  clear hs hs' hz hc1 hc2
  have He := Lib.hid he
  have Hy := Lib.hid hy
  clear he hy
  go_enter Tryz.func167, Tryz.ntmps167
  obtain ⟨g0, g1, g2, g3, g4, g5, g6, g7, g8, g9, g10, g11, g12, g13, g15, gf⟩ := p.cells
  go_wp2_with fail
  refine (inPageOf_any a e ha eb Hy.out _).mono ?_
  rintro e w1 ⟨rfl, rfl⟩
  go_wp2
  go_ret
  refine ⟨rfl, ?_⟩
  exact (by rw [← HS.out]; exact p.mono (by omega))

set_option maxRecDepth 100000 in
theorem Play.indexed_cross {F : Nat → Prop} {w W : World} {P : Nat} {o : Option Nat} {k : OpK} {s : St} {N : Nat} (p : Play F w W P o k s N) (a i : Nat) (ha : a < 65536) (hi : i < 256) (hc : ¬ inPage a ((a + i) % 65536) = (a + i) % 65536) (hN : N ≤ 88) {z : Nat} {s' : St} (hz : (s.indexed a i k.kd).1 = z) (hs : (s.indexed a i k.kd).2 = s') :
    Calls Tryz.prog 167 #[.pointer (some ⟨P, 0, none⟩), .int .u16 (a : Int), .int .u8 (i : Int)] W fun e w' => e = .returned (.int .u16 (z : Int)) ∧ Play F w w' P o k s' (N + 1) := by
  obtain ⟨hA, hX, hY, hS, hP⟩ := p.pl.ok
  obtain ⟨e, he⟩ : ∃ r_, (a + i) % 65536 = r_ := ⟨_, rfl⟩
  obtain ⟨y, hy⟩ : ∃ r_, inPage a e = r_ := ⟨_, rfl⟩
  have eb : e < 65536 := by omega
  have yb : y < 65536 := by rw [← hy]; unfold inPage; omega
  rw [he, hy] at hc
  have hz' : e = z := by rw [← he]; exact hz
  subst hz'
  have e3 : IntKind.u16.wrap ((a : Int) + (i : Int)) = (e : Int) := by rw [w16]; omega
  have e4 : IntKind.u16.wrap (i : Int) = (i : Int) := by rw [w16]; omega
  have hs' : (⟨s.c, s.b.rd y⟩ : St) = s' := by rw [← hs]; simp [St.indexed, he, hy, hc]
  have t1 : ((y : Int) != (e : Int)) = true := by simpa using fun h => hc (by omega)
  have HS := Lib.hid hs'
  clear hs hs' hz hc
  have He := Lib.hid he
  have Hy := Lib.hid hy
  clear he hy
  obtain ⟨hm0, hm1⟩ := methR
  rcases o with _ | B
  · go_enter Tryz.func167, Tryz.ntmps167
    obtain ⟨g0, g1, g2, g3, g4, g5, g6, g7, g8, g9, g10, g11, g12, g13, g15, gf⟩ := p.cells
    go_wp2_with fail
    refine (inPageOf_any a e ha eb Hy.out _).mono ?_
    rintro e w1 ⟨rfl, rfl⟩
    go_wp2_with fail
    refine (p.read _ y rfl yb (by omega) rfl HS.out).mono ?_
    rintro e w2 ⟨rfl, p3⟩
    clear g0 g1 g2 g3 g4 g5 g6 g7 g8 g9 g10 g11 g12 g13 g15 gf
    go_wp2
    go_ret
    refine ⟨rfl, ?_⟩
    exact p3
  · go_enter Tryz.func167, Tryz.ntmps167
    obtain ⟨g0, g1, g2, g3, g4, g5, g6, g7, g8, g9, g10, g11, g12, g13, g15, gf⟩ := p.cells
    go_wp2_with fail
    refine (inPageOf_any a e ha eb Hy.out _).mono ?_
    rintro e w1 ⟨rfl, rfl⟩
    go_wp2_with fail
    refine (p.read _ y rfl yb (by omega) rfl HS.out).mono ?_
    rintro e w2 ⟨rfl, p3⟩
    clear g0 g1 g2 g3 g4 g5 g6 g7 g8 g9 g10 g11 g12 g13 g15 gf
    go_wp2
    go_ret
    refine ⟨rfl, ?_⟩
    exact p3

set_option maxRecDepth 100000 in
theorem Play.indexed_other {F : Nat → Prop} {w W : World} {P : Nat} {o : Option Nat} {k : OpK} {s : St} {N : Nat} (p : Play F w W P o k s N) (a i : Nat) (ha : a < 65536) (hi : i < 256) (hc : inPage a ((a + i) % 65536) = (a + i) % 65536 ∧ ¬ k.kd = 2) (hN : N ≤ 88) {z : Nat} {s' : St} (hz : (s.indexed a i k.kd).1 = z) (hs : (s.indexed a i k.kd).2 = s') :
    Calls Tryz.prog 167 #[.pointer (some ⟨P, 0, none⟩), .int .u16 (a : Int), .int .u8 (i : Int)] W fun e w' => e = .returned (.int .u16 (z : Int)) ∧ Play F w w' P o k s' (N + 1) := by
  obtain ⟨hA, hX, hY, hS, hP⟩ := p.pl.ok
  obtain ⟨e, he⟩ : ∃ r_, (a + i) % 65536 = r_ := ⟨_, rfl⟩
  obtain ⟨y, hy⟩ : ∃ r_, inPage a e = r_ := ⟨_, rfl⟩
  have eb : e < 65536 := by omega
  have yb : y < 65536 := by rw [← hy]; unfold inPage; omega
  rw [he, hy] at hc
  have hz' : e = z := by rw [← he]; exact hz
  subst hz'
  have e3 : IntKind.u16.wrap ((a : Int) + (i : Int)) = (e : Int) := by rw [w16]; omega
  have e4 : IntKind.u16.wrap (i : Int) = (i : Int) := by rw [w16]; omega
  obtain ⟨hc1, hc2⟩ := hc
  have hs' : (⟨s.c, s.b.rd y⟩ : St) = s' := by rw [← hs]; simp [St.indexed, he, hy, hc2]
  have t1 : ((y : Int) != (e : Int)) = false := by rw [hc1]; simp
  have t2 : (k.kd != 2) = true := by simpa using hc2
  have HS := Lib.hid hs'
  clear hs hs' hz hc1 hc2
  have He := Lib.hid he
  have Hy := Lib.hid hy
  clear he hy
  obtain ⟨hm0, hm1⟩ := methR
  rcases o with _ | B
  · go_enter Tryz.func167, Tryz.ntmps167
    obtain ⟨g0, g1, g2, g3, g4, g5, g6, g7, g8, g9, g10, g11, g12, g13, g15, gf⟩ := p.cells
    go_wp2_with fail
    refine (inPageOf_any a e ha eb Hy.out _).mono ?_
    rintro e w1 ⟨rfl, rfl⟩
    go_wp2_with fail
    refine (p.read _ y rfl yb (by omega) rfl HS.out).mono ?_
    rintro e w2 ⟨rfl, p3⟩
    clear g0 g1 g2 g3 g4 g5 g6 g7 g8 g9 g10 g11 g12 g13 g15 gf
    go_wp2
    go_ret
    refine ⟨rfl, ?_⟩
    exact p3
  · go_enter Tryz.func167, Tryz.ntmps167
    obtain ⟨g0, g1, g2, g3, g4, g5, g6, g7, g8, g9, g10, g11, g12, g13, g15, gf⟩ := p.cells
    go_wp2_with fail
    refine (inPageOf_any a e ha eb Hy.out _).mono ?_
    rintro e w1 ⟨rfl, rfl⟩
    go_wp2_with fail
    refine (p.read _ y rfl yb (by omega) rfl HS.out).mono ?_
    rintro e w2 ⟨rfl, p3⟩
    clear g0 g1 g2 g3 g4 g5 g6 g7 g8 g9 g10 g11 g12 g13 g15 gf
    go_wp2
    go_ret
    refine ⟨rfl, ?_⟩
    exact p3

theorem Play.indexed {F : Nat → Prop} {w W : World} {P : Nat} {o : Option Nat} {k : OpK} {s : St} {N : Nat} (p : Play F w W P o k s N) (a i : Nat) (ha : a < 65536) (hi : i < 256) (hN : N ≤ 88) {z : Nat} {s' : St} (hz : (s.indexed a i k.kd).1 = z) (hs : (s.indexed a i k.kd).2 = s') :
    Calls Tryz.prog 167 #[.pointer (some ⟨P, 0, none⟩), .int .u16 (a : Int), .int .u8 (i : Int)] W fun e w' => e = .returned (.int .u16 (z : Int)) ∧ Play F w w' P o k s' (N + 1) := by
  by_cases h1 : inPage a ((a + i) % 65536) = (a + i) % 65536
  · by_cases h2 : k.kd = 2
    · exact p.indexed_same a i ha hi ⟨h1, h2⟩ hN hz hs
    · exact p.indexed_other a i ha hi ⟨h1, h2⟩ hN hz hs
  · exact p.indexed_cross a i ha hi h1 hN hz hs

end Go.Proofs.YtblchdmemhhcbaaGreat
