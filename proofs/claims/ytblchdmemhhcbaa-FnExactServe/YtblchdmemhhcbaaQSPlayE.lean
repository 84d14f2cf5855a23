/-
  Contracts over the program: PC pushed and pulled.
-/
import Derived.Test.YtblchdmemhhcbaaQSPlayC
namespace Go.Proofs.Ytblchdmemhhcbaa
set_option linter.unusedVariables false
set_option linter.unusedSimpArgs false
open Go.RowKit

set_option maxRecDepth 100000 in
theorem Play.pushPC {F : Nat → Prop} {w W : World} {P : Nat} {o : Option Nat} {k : OpK} {s : St} {N : Nat} (p : Play F w W P o k s N) (hN : N ≤ 86) {s' : St} (hs : s.pushPC = s') :
    Calls Try.prog 56 #[.pointer (some ⟨P, 0, none⟩)] W fun e w' => e = .returned (.tuple #[]) ∧ Play F w w' P o k s' (N + 2) := by
  obtain ⟨hA, hX, hY, hS, hP⟩ := p.pl.ok
  obtain ⟨h, hh⟩ : ∃ r_, s.c.PC / 256 = r_ := ⟨_, rfl⟩
  obtain ⟨l, hl⟩ : ∃ r_, s.c.PC % 256 = r_ := ⟨_, rfl⟩
  obtain ⟨s1, hs1⟩ : ∃ r_, s.push h = r_ := ⟨_, rfl⟩
  have hb : h < 256 := by omega
  have lb : l < 256 := by omega
  have e4 : s1.c.PC = s.c.PC := by rw [← hs1]; rfl
  have hs' : s1.push l = s' := by rw [← hs, ← hs1, ← hl, ← hh]; rfl
  have Hs1 := Lib.hid hs1
  clear hs1
  go_enter Try.func56, Try.ntmps56
  obtain ⟨g0, g1, g2, g3, g4, g5, g6, g7, g8, g9, g10, g11, g12, g13, g15, gf⟩ := p.cells
  go_wp2_with fail
  refine (p.push _ h (by first | omega | (simp only [IntKind.wrap, IntKind.bits, IntKind.signed]; simp; omega)) hb (by omega) Hs1.out).mono ?_
  rintro e w1 ⟨rfl, p2⟩
  clear g0 g1 g2 g3 g4 g5 g6 g7 g8 g9 g10 g11 g12 g13 g15 gf
  obtain ⟨g0, g1, g2, g3, g4, g5, g6, g7, g8, g9, g10, g11, g12, g13, g15, gf⟩ := p2.cells
  rw [e4] at g4
  go_wp2_with fail
  refine (p2.push _ l (by first | omega | (simp only [IntKind.wrap, IntKind.bits, IntKind.signed]; simp; omega)) lb (by omega) hs').mono ?_
  rintro e w3 ⟨rfl, p4⟩
  clear g0 g1 g2 g3 g4 g5 g6 g7 g8 g9 g10 g11 g12 g13 g15 gf
  clear p2
  go_wp2
  (try simp only [Exit.inBlock, Exit.then])
  first | refine bodyPost_ret (results_none rfl _ _ _) rfl ?_ | refine bodyPost_end (results_none rfl _ _ _) rfl ?_
  refine ⟨rfl, ?_⟩
  exact p4

end Go.Proofs.Ytblchdmemhhcbaa
