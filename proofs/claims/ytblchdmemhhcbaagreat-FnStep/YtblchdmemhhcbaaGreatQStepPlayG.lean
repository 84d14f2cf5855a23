/-
  Contracts over the program: what a player makes of a byte (remade).
-/
import Derived.Test.YtblchdmemhhcbaaGreatQStepPlayB
import Derived.Test.YtblchdmemhhcbaaGreatQStepStepA
namespace Go.Proofs.YtblchdmemhhcbaaGreat
set_option linter.unusedVariables false
set_option linter.unusedSimpArgs false
open Go.RowKit

set_option maxRecDepth 100000 in
theorem Play.remade_ASL {F : Nat → Prop} {w W : World} {P : Nat} {o : Option Nat} {k : OpK} {s : St} {N : Nat} (p : Play F w W P o k s N) (hk : k.nm = ⟨#[65, 83, 76]⟩) (m : Nat) (hm : m < 256) (hN : N ≤ 90) {z : Nat} {s' : St} (hz : chgB [65, 83, 76] m s.c.C = z) (hs : ⟨s.c.chg [65, 83, 76] m, s.b⟩ = s') :
    Calls Tryz.prog 137 #[.pointer (some ⟨P, 0, none⟩), .int .u8 (m : Int)] W fun e w' => e = .returned (.int .u8 (z : Int)) ∧ Play F w w' P o k s' (N + 0) := by
  obtain ⟨hA, hX, hY, hS, hP⟩ := p.pl.ok
  obtain ⟨x, hx⟩ := nat_of (mvR_bd (m : Int) true false (by omega) (by omega)).1
  have hxb : x < 256 := by have := (mvR_bd (m : Int) true false (by omega) (by omega)).2; omega
  have hz' : x = z := by rw [← hz]; simp [chgB, hx]
  subst hz'
  clear hz
  have Hx := Lib.hid hx
  clear hx
  go_enter Tryz.func137, Tryz.ntmps137
  obtain ⟨g0, g1, g2, g3, g4, g5, g6, g7, g8, g9, g10, g11, g12, g13, g15, gf⟩ := p.cells
  rw [hk] at g12
  go_wp2_with fail
  refine (implAsl_any _ _ _ _ _ _ _ (by omega) (by omega) _).mono ?_
  rintro e w1 ⟨rfl, d2⟩
  have p3 := p.below d2
  clear g0 g1 g2 g3 g4 g5 g6 g7 g8 g9 g10 g11 g12 g13 g15 gf
  clear d2
  rw [Hx.out]
  obtain ⟨g0, g1, g2, g3, g4, g5, g6, g7, g8, g9, g10, g11, g12, g13, g15, gf⟩ := p3.cells
  rw [hk] at g12
  go_wp2
  go_ret
  refine ⟨rfl, ?_⟩
  exact p3.flags _ _ _ _ _ _ (by rw [← hs]; simp [CpuN.chg, chgB, chgC, Hx.out])

set_option maxRecDepth 100000 in
theorem Play.remade_LSR {F : Nat → Prop} {w W : World} {P : Nat} {o : Option Nat} {k : OpK} {s : St} {N : Nat} (p : Play F w W P o k s N) (hk : k.nm = ⟨#[76, 83, 82]⟩) (m : Nat) (hm : m < 256) (hN : N ≤ 90) {z : Nat} {s' : St} (hz : chgB [76, 83, 82] m s.c.C = z) (hs : ⟨s.c.chg [76, 83, 82] m, s.b⟩ = s') :
    Calls Tryz.prog 137 #[.pointer (some ⟨P, 0, none⟩), .int .u8 (m : Int)] W fun e w' => e = .returned (.int .u8 (z : Int)) ∧ Play F w w' P o k s' (N + 0) := by
  obtain ⟨hA, hX, hY, hS, hP⟩ := p.pl.ok
  obtain ⟨x, hx⟩ := nat_of (mvR_bd (m : Int) false false (by omega) (by omega)).1
  have hxb : x < 256 := by have := (mvR_bd (m : Int) false false (by omega) (by omega)).2; omega
  have hz' : x = z := by rw [← hz]; simp [chgB, hx]
  subst hz'
  clear hz
  have Hx := Lib.hid hx
  clear hx
  go_enter Tryz.func137, Tryz.ntmps137
  obtain ⟨g0, g1, g2, g3, g4, g5, g6, g7, g8, g9, g10, g11, g12, g13, g15, gf⟩ := p.cells
  rw [hk] at g12
  go_wp2_with fail
  refine (implLsr_any _ _ _ _ _ _ _ (by omega) (by omega) _).mono ?_
  rintro e w1 ⟨rfl, d2⟩
  have p3 := p.below d2
  clear g0 g1 g2 g3 g4 g5 g6 g7 g8 g9 g10 g11 g12 g13 g15 gf
  clear d2
  rw [Hx.out]
  obtain ⟨g0, g1, g2, g3, g4, g5, g6, g7, g8, g9, g10, g11, g12, g13, g15, gf⟩ := p3.cells
  rw [hk] at g12
  go_wp2
  go_ret
  refine ⟨rfl, ?_⟩
  exact p3.flags _ _ _ _ _ _ (by rw [← hs]; simp [CpuN.chg, chgB, chgC, Hx.out])

set_option maxRecDepth 100000 in
theorem Play.remade_ROL {F : Nat → Prop} {w W : World} {P : Nat} {o : Option Nat} {k : OpK} {s : St} {N : Nat} (p : Play F w W P o k s N) (hk : k.nm = ⟨#[82, 79, 76]⟩) (m : Nat) (hm : m < 256) (hN : N ≤ 90) {z : Nat} {s' : St} (hz : chgB [82, 79, 76] m s.c.C = z) (hs : ⟨s.c.chg [82, 79, 76] m, s.b⟩ = s') :
    Calls Tryz.prog 137 #[.pointer (some ⟨P, 0, none⟩), .int .u8 (m : Int)] W fun e w' => e = .returned (.int .u8 (z : Int)) ∧ Play F w w' P o k s' (N + 0) := by
  obtain ⟨hA, hX, hY, hS, hP⟩ := p.pl.ok
  obtain ⟨x, hx⟩ := nat_of (mvR_bd (m : Int) true s.c.C (by omega) (by omega)).1
  have hxb : x < 256 := by have := (mvR_bd (m : Int) true s.c.C (by omega) (by omega)).2; omega
  have hz' : x = z := by rw [← hz]; simp [chgB, hx]
  subst hz'
  clear hz
  have Hx := Lib.hid hx
  clear hx
  go_enter Tryz.func137, Tryz.ntmps137
  obtain ⟨g0, g1, g2, g3, g4, g5, g6, g7, g8, g9, g10, g11, g12, g13, g15, gf⟩ := p.cells
  rw [hk] at g12
  go_wp2_with fail
  refine (implRol_any _ _ _ _ _ _ _ (by omega) (by omega) _).mono ?_
  rintro e w1 ⟨rfl, d2⟩
  have p3 := p.below d2
  clear g0 g1 g2 g3 g4 g5 g6 g7 g8 g9 g10 g11 g12 g13 g15 gf
  clear d2
  rw [Hx.out]
  obtain ⟨g0, g1, g2, g3, g4, g5, g6, g7, g8, g9, g10, g11, g12, g13, g15, gf⟩ := p3.cells
  rw [hk] at g12
  go_wp2
  go_ret
  refine ⟨rfl, ?_⟩
  exact p3.flags _ _ _ _ _ _ (by rw [← hs]; simp [CpuN.chg, chgB, chgC, Hx.out])

set_option maxRecDepth 100000 in
theorem Play.remade_ROR {F : Nat → Prop} {w W : World} {P : Nat} {o : Option Nat} {k : OpK} {s : St} {N : Nat} (p : Play F w W P o k s N) (hk : k.nm = ⟨#[82, 79, 82]⟩) (m : Nat) (hm : m < 256) (hN : N ≤ 90) {z : Nat} {s' : St} (hz : chgB [82, 79, 82] m s.c.C = z) (hs : ⟨s.c.chg [82, 79, 82] m, s.b⟩ = s') :
    Calls Tryz.prog 137 #[.pointer (some ⟨P, 0, none⟩), .int .u8 (m : Int)] W fun e w' => e = .returned (.int .u8 (z : Int)) ∧ Play F w w' P o k s' (N + 0) := by
  obtain ⟨hA, hX, hY, hS, hP⟩ := p.pl.ok
  obtain ⟨x, hx⟩ := nat_of (mvR_bd (m : Int) false s.c.C (by omega) (by omega)).1
  have hxb : x < 256 := by have := (mvR_bd (m : Int) false s.c.C (by omega) (by omega)).2; omega
  have hz' : x = z := by rw [← hz]; simp [chgB, hx]
  subst hz'
  clear hz
  have Hx := Lib.hid hx
  clear hx
  go_enter Tryz.func137, Tryz.ntmps137
  obtain ⟨g0, g1, g2, g3, g4, g5, g6, g7, g8, g9, g10, g11, g12, g13, g15, gf⟩ := p.cells
  rw [hk] at g12
  go_wp2_with fail
  refine (implRor_any _ _ _ _ _ _ _ (by omega) (by omega) _).mono ?_
  rintro e w1 ⟨rfl, d2⟩
  have p3 := p.below d2
  clear g0 g1 g2 g3 g4 g5 g6 g7 g8 g9 g10 g11 g12 g13 g15 gf
  clear d2
  rw [Hx.out]
  obtain ⟨g0, g1, g2, g3, g4, g5, g6, g7, g8, g9, g10, g11, g12, g13, g15, gf⟩ := p3.cells
  rw [hk] at g12
  go_wp2
  go_ret
  refine ⟨rfl, ?_⟩
  exact p3.flags _ _ _ _ _ _ (by rw [← hs]; simp [CpuN.chg, chgB, chgC, Hx.out])

set_option maxRecDepth 100000 in
theorem Play.remade_INC {F : Nat → Prop} {w W : World} {P : Nat} {o : Option Nat} {k : OpK} {s : St} {N : Nat} (p : Play F w W P o k s N) (hk : k.nm = ⟨#[73, 78, 67]⟩) (m : Nat) (hm : m < 256) (hN : N ≤ 90) {z : Nat} {s' : St} (hz : chgB [73, 78, 67] m s.c.C = z) (hs : ⟨s.c.chg [73, 78, 67] m, s.b⟩ = s') :
    Calls Tryz.prog 137 #[.pointer (some ⟨P, 0, none⟩), .int .u8 (m : Int)] W fun e w' => e = .returned (.int .u8 (z : Int)) ∧ Play F w w' P o k s' (N + 0) := by
  obtain ⟨hA, hX, hY, hS, hP⟩ := p.pl.ok
  have hx : (m + 1) % 256 = z := by rw [← hz]; simp [chgB]
  have hzb : z < 256 := by omega
  have e3 : IntKind.u8.wrap ((m : Int) + 1) = (z : Int) := by simp [IntKind.wrap, IntKind.bits, IntKind.signed]; omega
  clear hz
  have Hx := Lib.hid hx
  clear hx
  go_enter Tryz.func137, Tryz.ntmps137
  obtain ⟨g0, g1, g2, g3, g4, g5, g6, g7, g8, g9, g10, g11, g12, g13, g15, gf⟩ := p.cells
  rw [hk] at g12
  go_wp2_with fail
  refine (implNZ_any _ _ _ _ _ _ _ _ (by omega) (by omega)).mono ?_
  rintro e w1 ⟨rfl, d2⟩
  have p3 := p.below d2
  clear g0 g1 g2 g3 g4 g5 g6 g7 g8 g9 g10 g11 g12 g13 g15 gf
  clear d2
  obtain ⟨g0, g1, g2, g3, g4, g5, g6, g7, g8, g9, g10, g11, g12, g13, g15, gf⟩ := p3.cells
  rw [hk] at g12
  go_wp2
  go_ret
  refine ⟨rfl, ?_⟩
  exact p3.flags _ _ _ _ _ _ (by rw [← hs]; simp [CpuN.chg, chgB, chgC, Hx.out])

set_option maxRecDepth 100000 in
theorem Play.remade_DEC {F : Nat → Prop} {w W : World} {P : Nat} {o : Option Nat} {k : OpK} {s : St} {N : Nat} (p : Play F w W P o k s N) (hk : k.nm = ⟨#[68, 69, 67]⟩) (m : Nat) (hm : m < 256) (hN : N ≤ 90) {z : Nat} {s' : St} (hz : chgB [68, 69, 67] m s.c.C = z) (hs : ⟨s.c.chg [68, 69, 67] m, s.b⟩ = s') :
    Calls Tryz.prog 137 #[.pointer (some ⟨P, 0, none⟩), .int .u8 (m : Int)] W fun e w' => e = .returned (.int .u8 (z : Int)) ∧ Play F w w' P o k s' (N + 0) := by
  obtain ⟨hA, hX, hY, hS, hP⟩ := p.pl.ok
  have hx : (m + 255) % 256 = z := by rw [← hz]; simp [chgB]
  have hzb : z < 256 := by omega
  have e3 : IntKind.u8.wrap ((m : Int) - 1) = (z : Int) := by simp [IntKind.wrap, IntKind.bits, IntKind.signed]; omega
  clear hz
  have Hx := Lib.hid hx
  clear hx
  go_enter Tryz.func137, Tryz.ntmps137
  obtain ⟨g0, g1, g2, g3, g4, g5, g6, g7, g8, g9, g10, g11, g12, g13, g15, gf⟩ := p.cells
  rw [hk] at g12
  go_wp2_with fail
  refine (implNZ_any _ _ _ _ _ _ _ _ (by omega) (by omega)).mono ?_
  rintro e w1 ⟨rfl, d2⟩
  have p3 := p.below d2
  clear g0 g1 g2 g3 g4 g5 g6 g7 g8 g9 g10 g11 g12 g13 g15 gf
  clear d2
  obtain ⟨g0, g1, g2, g3, g4, g5, g6, g7, g8, g9, g10, g11, g12, g13, g15, gf⟩ := p3.cells
  rw [hk] at g12
  go_wp2
  go_ret
  refine ⟨rfl, ?_⟩
  exact p3.flags _ _ _ _ _ _ (by rw [← hs]; simp [CpuN.chg, chgB, chgC, Hx.out])

end Go.Proofs.YtblchdmemhhcbaaGreat
