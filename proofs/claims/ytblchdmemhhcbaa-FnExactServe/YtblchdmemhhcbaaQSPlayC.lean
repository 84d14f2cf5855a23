/-
  Contracts over the program: the moves of a player at the stack.
-/
import Derived.Test.YtblchdmemhhcbaaQSPlayB
namespace Go.Proofs.Ytblchdmemhhcbaa
set_option linter.unusedVariables false
set_option linter.unusedSimpArgs false
open Go.RowKit

set_option maxRecDepth 100000 in
theorem Play.push {F : Nat → Prop} {w W : World} {P : Nat} {o : Option Nat} {k : OpK} {s : St} {N : Nat} (p : Play F w W P o k s N) (x : Int) (d : Nat) (hx : x = (d : Int)) (hd : d < 256) (hN : N ≤ 88) {s' : St} (hs : s.push d = s') :
    Calls Try.prog 57 #[.pointer (some ⟨P, 0, none⟩), .int .u8 x] W fun e w' => e = .returned (.tuple #[]) ∧ Play F w w' P o k s' (N + 1) := by
  obtain ⟨hA, hX, hY, hS, hP⟩ := p.pl.ok
  subst hx
  have hk : stk s.c.S < 65536 := by unfold stk; omega
  obtain ⟨hm0, hm1⟩ := methW
  rcases o with _ | B
  · go_enter Try.func57, Try.ntmps57
    obtain ⟨g0, g1, g2, g3, g4, g5, g6, g7, g8, g9, g10, g11, g12, g13, g15, gf⟩ := p.cells
    go_wp2_with fail
    have p1 := p.drew
    clear g0 g1 g2 g3 g4 g5 g6 g7 g8 g9 g10 g11 g12 g13 g15 gf
    obtain ⟨g0, g1, g2, g3, g4, g5, g6, g7, g8, g9, g10, g11, g12, g13, g15, gf⟩ := p1.cells
    go_region_held3 (fun w' => w'.cell? ⟨P, 11, none⟩ = some (busV none) ∧ w'.cell? ⟨P, 3, none⟩ = some (.int .u8 (s.c.S : Int)))
    (((try dsimp only); (first | (with_reducible exact ⟨g11, g3⟩) | (with_reducible exact hh5))))
    (first | (go_at_call 69; refine (stackAt_any _ (by omega) _).mono ?_; rintro e u2 ⟨rfl, rfl⟩) | (refine (p1.write _ _ _ _ rfl rfl hk hd (by omega) rfl).mono ?_; rintro e w3 ⟨rfl, p4⟩; have hh5 : w3.cell? ⟨P, 11, none⟩ = some (busV none) ∧ w3.cell? ⟨P, 3, none⟩ = some (.int .u8 (s.c.S : Int)) := ⟨p4.cells.2.2.2.2.2.2.2.2.2.2.2.1, p4.cells.2.2.2.1⟩))
    clear g0 g1 g2 g3 g4 g5 g6 g7 g8 g9 g10 g11 g12 g13 g15 gf
    clear hh5
    obtain ⟨g0, g1, g2, g3, g4, g5, g6, g7, g8, g9, g10, g11, g12, g13, g15, gf⟩ := p4.cells
    go_wp2
    (try simp only [Exit.inBlock, Exit.then])
    first | refine bodyPost_ret (results_none rfl _ _ _) rfl ?_ | refine bodyPost_end (results_none rfl _ _ _) rfl ?_
    refine ⟨rfl, ?_⟩
    exact p4.setS _ ((s.c.S + 255) % 256) (by first | omega | (simp; omega)) (by omega) hs
  · go_enter Try.func57, Try.ntmps57
    obtain ⟨g0, g1, g2, g3, g4, g5, g6, g7, g8, g9, g10, g11, g12, g13, g15, gf⟩ := p.cells
    go_wp2_with fail
    have p1 := p.drew
    clear g0 g1 g2 g3 g4 g5 g6 g7 g8 g9 g10 g11 g12 g13 g15 gf
    obtain ⟨g0, g1, g2, g3, g4, g5, g6, g7, g8, g9, g10, g11, g12, g13, g15, gf⟩ := p1.cells
    go_region_held3 (fun w' => w'.cell? ⟨P, 11, none⟩ = some (busV (some B)) ∧ w'.cell? ⟨P, 3, none⟩ = some (.int .u8 (s.c.S : Int)))
    (((try dsimp only); (first | (with_reducible exact ⟨g11, g3⟩) | (with_reducible exact hh5))))
    (first | (go_at_call 69; refine (stackAt_any _ (by omega) _).mono ?_; rintro e u2 ⟨rfl, rfl⟩) | (refine (p1.write _ _ _ _ rfl rfl hk hd (by omega) rfl).mono ?_; rintro e w3 ⟨rfl, p4⟩; have hh5 : w3.cell? ⟨P, 11, none⟩ = some (busV (some B)) ∧ w3.cell? ⟨P, 3, none⟩ = some (.int .u8 (s.c.S : Int)) := ⟨p4.cells.2.2.2.2.2.2.2.2.2.2.2.1, p4.cells.2.2.2.1⟩))
    clear g0 g1 g2 g3 g4 g5 g6 g7 g8 g9 g10 g11 g12 g13 g15 gf
    clear hh5
    obtain ⟨g0, g1, g2, g3, g4, g5, g6, g7, g8, g9, g10, g11, g12, g13, g15, gf⟩ := p4.cells
    go_wp2
    (try simp only [Exit.inBlock, Exit.then])
    first | refine bodyPost_ret (results_none rfl _ _ _) rfl ?_ | refine bodyPost_end (results_none rfl _ _ _) rfl ?_
    refine ⟨rfl, ?_⟩
    exact p4.setS _ ((s.c.S + 255) % 256) (by first | omega | (simp; omega)) (by omega) hs

end Go.Proofs.Ytblchdmemhhcbaa
