/-
  Contracts over the program: the words that a player fetches and reads.
-/
import Derived.Test.YtblchdmemhhcbaaQSPlayB
namespace Go.Proofs.Ytblchdmemhhcbaa
set_option linter.unusedVariables false
set_option linter.unusedSimpArgs false
open Go.RowKit

set_option maxRecDepth 100000 in
theorem Play.readW {F : Nat → Prop} {w W : World} {P : Nat} {o : Option Nat} {k : OpK} {s : St} {N : Nat} (p : Play F w W P o k s N) (x : Int) (a : Nat) (hx : x = (a : Int)) (ha : a < 65536) (hN : N ≤ 86) {z : Nat} {s' : St} (hz : (s.readW a).1 = z) (hs : (s.readW a).2 = s') :
    Calls Try.prog 59 #[.pointer (some ⟨P, 0, none⟩), .int .u16 x] W fun e w' => e = .returned (.int .u16 (z : Int)) ∧ Play F w w' P o k s' (N + 2) := by
  obtain ⟨hA, hX, hY, hS, hP⟩ := p.pl.ok
  subst hx
  obtain ⟨z1, hz1⟩ : ∃ r_, s.b.get a = r_ := ⟨_, rfl⟩
  obtain ⟨b1, hb1⟩ : ∃ r_, s.b.rd a = r_ := ⟨_, rfl⟩
  obtain ⟨a1, ha1⟩ : ∃ r_, (a + 1) % 65536 = r_ := ⟨_, rfl⟩
  obtain ⟨a2, ha2⟩ : ∃ r_, inPage a a1 = r_ := ⟨_, rfl⟩
  obtain ⟨z2, hz2⟩ : ∃ r_, b1.get a2 = r_ := ⟨_, rfl⟩
  have hz' : word z1 z2 = z := by rw [← hz, ← hz2, ← hz1, ← hb1, ← ha2, ← ha1]; rfl
  have hs' : (⟨s.c, b1.rd a2⟩ : St) = s' := by rw [← hs, ← hb1, ← ha2, ← ha1]; rfl
  have z1b : z1 < 256 := by rw [← hz1]; exact p.byte _
  have a1b : a1 < 65536 := by omega
  have a2b : a2 < 65536 := by rw [← ha2]; unfold inPage; omega
  have e1 : IntKind.u16.wrap ((a : Int) + 1) = (a1 : Int) := by rw [w16]; omega
  have Hz1 := Lib.hid hz1
  have Hb1 := Lib.hid hb1
  have Ha1 := Lib.hid ha1
  have Ha2 := Lib.hid ha2
  have Hz2 := Lib.hid hz2
  clear hz1 hb1 ha1 ha2 hz2
  obtain ⟨hm0, hm1⟩ := methR
  rcases o with _ | B
  · go_enter Try.func59, Try.ntmps59
    obtain ⟨g0, g1, g2, g3, g4, g5, g6, g7, g8, g9, g10, g11, g12, g13, g15, gf⟩ := p.cells
    go_wp2_with fail
    refine (p.read _ _ rfl ha (by omega) Hz1.out (by rw [Hb1.out])).mono ?_
    rintro e w1 ⟨rfl, p2⟩
    clear g0 g1 g2 g3 g4 g5 g6 g7 g8 g9 g10 g11 g12 g13 g15 gf
    have z2b : z2 < 256 := by rw [← Hz2.out]; exact p2.byte _
    obtain ⟨g0, g1, g2, g3, g4, g5, g6, g7, g8, g9, g10, g11, g12, g13, g15, gf⟩ := p2.cells
    go_wp2_with fail
    have p3 := p2.drew
    clear g0 g1 g2 g3 g4 g5 g6 g7 g8 g9 g10 g11 g12 g13 g15 gf
    have g11 := p3.cells.2.2.2.2.2.2.2.2.2.2.2.1
    go_region_held3 (fun w' => w'.cell? ⟨P, 11, none⟩ = some (busV none))
    (((try dsimp only); (first | (with_reducible exact g11) | (with_reducible exact p9.cells.2.2.2.2.2.2.2.2.2.2.2.1))))
    (first | (go_at_call 71; refine (inPageOf_any a a1 ha a1b Ha2.out _).mono ?_; rintro e w8 ⟨rfl, rfl⟩) | (refine (p3.read _ _ rfl a2b (by omega) Hz2.out rfl).mono ?_; rintro e w9 ⟨rfl, p9⟩))
    go_wp2_with fail
    refine (wordOf_at z1 z2 z1b z2b hz' _).mono ?_
    rintro e w4 ⟨rfl, rfl⟩
    go_wp2
    go_ret
    refine ⟨rfl, ?_⟩
    exact (by subst hs'; exact p9)
  · go_enter Try.func59, Try.ntmps59
    obtain ⟨g0, g1, g2, g3, g4, g5, g6, g7, g8, g9, g10, g11, g12, g13, g15, gf⟩ := p.cells
    go_wp2_with fail
    refine (p.read _ _ rfl ha (by omega) Hz1.out (by rw [Hb1.out])).mono ?_
    rintro e w1 ⟨rfl, p2⟩
    clear g0 g1 g2 g3 g4 g5 g6 g7 g8 g9 g10 g11 g12 g13 g15 gf
    have z2b : z2 < 256 := by rw [← Hz2.out]; exact p2.byte _
    obtain ⟨g0, g1, g2, g3, g4, g5, g6, g7, g8, g9, g10, g11, g12, g13, g15, gf⟩ := p2.cells
    go_wp2_with fail
    have p3 := p2.drew
    clear g0 g1 g2 g3 g4 g5 g6 g7 g8 g9 g10 g11 g12 g13 g15 gf
    have g11 := p3.cells.2.2.2.2.2.2.2.2.2.2.2.1
    go_region_held3 (fun w' => w'.cell? ⟨P, 11, none⟩ = some (busV (some B)))
    (((try dsimp only); (first | (with_reducible exact g11) | (with_reducible exact p9.cells.2.2.2.2.2.2.2.2.2.2.2.1))))
    (first | (go_at_call 71; refine (inPageOf_any a a1 ha a1b Ha2.out _).mono ?_; rintro e w8 ⟨rfl, rfl⟩) | (refine (p3.read _ _ rfl a2b (by omega) Hz2.out rfl).mono ?_; rintro e w9 ⟨rfl, p9⟩))
    go_wp2_with fail
    refine (wordOf_at z1 z2 z1b z2b hz' _).mono ?_
    rintro e w4 ⟨rfl, rfl⟩
    go_wp2
    go_ret
    refine ⟨rfl, ?_⟩
    exact (by subst hs'; exact p9)

end Go.Proofs.Ytblchdmemhhcbaa
