/-
  Contracts over the program: what a player plays with an operand's byte (playRead, playWrite, playModify), and at a branch.
-/
import Derived.Test.YtblchdmemhhcbaaGreatQSPlayI
import Derived.Test.YtblchdmemhhcbaaGreatQSPlayK
import Derived.Test.YtblchdmemhhcbaaGreatQSPlayNum3
import Derived.Test.YtblchdmemhhcbaaGreatQSPlayL2
namespace Go.Proofs.YtblchdmemhhcbaaGreat
set_option linter.unusedVariables false
set_option linter.unusedSimpArgs false
open Go.RowKit

set_option maxRecDepth 100000 in
theorem Play.place_2 {F : Nat → Prop} {w W : World} {P : Nat} {o : Option Nat} {k : OpK} {s : St} {N : Nat} (p : Play F w W P o k s N) (hk : k.md = 2) (hN : N ≤ 90) {z : Nat} {s' : St} (hz : (s.place 2 k.kd).1 = z) (hs : (s.place 2 k.kd).2 = s') :
    Calls Tryz.prog 142 #[.pointer (some ⟨P, 0, none⟩)] W fun e w' => e = .returned (.int .u16 (z : Int)) ∧ Play F w w' P o k s' (N + 0) := by
  obtain ⟨hA, hX, hY, hS, hP⟩ := p.pl.ok
  obtain ⟨y, hy⟩ : ∃ r_, (s.c.PC + 1) % 65536 = r_ := ⟨_, rfl⟩
  have yb : y < 65536 := by omega
  have e3 : IntKind.u16.wrap ((s.c.PC : Int) + 1) = (y : Int) := by rw [w16]; omega
  have e4 : IntKind.u16.wrap ((y : Int) - 1) = (s.c.PC : Int) := by rw [w16]; omega
  have hz' : s.c.PC = z := by rw [← hz]; rfl
  have hs' : (⟨{ s.c with PC := y }, s.b⟩ : St) = s' := by rw [← hs, ← hy]; rfl
  have Hhz' := Lib.hid hz'
  have Hhs' := Lib.hid hs'
  clear hz hs hz' hs'
  have Hy := Lib.hid hy
  clear hy
  go_enter Tryz.func142, Tryz.ntmps142
  obtain ⟨g0, g1, g2, g3, g4, g5, g6, g7, g8, g9, g10, g11, g12, g13, g15, gf⟩ := p.cells
  rw [hk] at g13
  go_wp2_with fail
  have p1 := p.setPC _ (y) rfl (by omega) rfl
  clear g0 g1 g2 g3 g4 g5 g6 g7 g8 g9 g10 g11 g12 g13 g15 gf
  generalize W.setCell ⟨P, 4, none⟩ (.int .u16 ((y : Nat) : Int)) = W2 at p1 ⊢
  obtain ⟨g0, g1, g2, g3, g4, g5, g6, g7, g8, g9, g10, g11, g12, g13, g15, gf⟩ := p1.cells
  rw [hk] at g13
  go_wp2
  go_ret
  refine ⟨?_, by rw [← Hhs'.out]; exact p1⟩
  first | (rw [← Hhz'.out]; done) | rfl | exact congrArg (fun v => Ending.returned (Value.int .u16 v)) (by have := Hhz'.out; omega)

set_option maxRecDepth 100000 in
theorem Play.place_3 {F : Nat → Prop} {w W : World} {P : Nat} {o : Option Nat} {k : OpK} {s : St} {N : Nat} (p : Play F w W P o k s N) (hk : k.md = 3) (hN : N ≤ 88) {z : Nat} {s' : St} (hz : (s.place 3 k.kd).1 = z) (hs : (s.place 3 k.kd).2 = s') :
    Calls Tryz.prog 142 #[.pointer (some ⟨P, 0, none⟩)] W fun e w' => e = .returned (.int .u16 (z : Int)) ∧ Play F w w' P o k s' (N + 1) := by
  obtain ⟨hA, hX, hY, hS, hP⟩ := p.pl.ok
  obtain ⟨z1, hz1⟩ : ∃ r_, s.fetch.1 = r_ := ⟨_, rfl⟩
  obtain ⟨s1, hs1⟩ : ∃ r_, s.fetch.2 = r_ := ⟨_, rfl⟩
  have z1b : z1 < 256 := by rw [← hz1]; exact p.byte _
  have hz' : z1 = z := by rw [← hz1]; exact hz
  have hs' : s1 = s' := by rw [← hs1]; exact hs
  subst hz'
  subst hs'
  clear hz hs
  have e3 : IntKind.u16.wrap (z1 : Int) = (z1 : Int) := by rw [w16]; omega
  have Hz1 := Lib.hid hz1
  have Hs1 := Lib.hid hs1
  clear hz1 hs1
  go_enter Tryz.func142, Tryz.ntmps142
  obtain ⟨g0, g1, g2, g3, g4, g5, g6, g7, g8, g9, g10, g11, g12, g13, g15, gf⟩ := p.cells
  rw [hk] at g13
  go_wp2_with fail
  refine (p.fetch (by omega) Hz1.out Hs1.out).mono ?_
  rintro e w1 ⟨rfl, p2⟩
  clear g0 g1 g2 g3 g4 g5 g6 g7 g8 g9 g10 g11 g12 g13 g15 gf
  go_wp2
  go_ret
  refine ⟨rfl, ?_⟩
  exact p2

set_option maxRecDepth 100000 in
theorem Play.place_4 {F : Nat → Prop} {w W : World} {P : Nat} {o : Option Nat} {k : OpK} {s : St} {N : Nat} (p : Play F w W P o k s N) (hk : k.md = 4) (hN : N ≤ 86) {z : Nat} {s' : St} (hz : (s.place 4 k.kd).1 = z) (hs : (s.place 4 k.kd).2 = s') :
    Calls Tryz.prog 142 #[.pointer (some ⟨P, 0, none⟩)] W fun e w' => e = .returned (.int .u16 (z : Int)) ∧ Play F w w' P o k s' (N + 2) := by
  obtain ⟨hA, hX, hY, hS, hP⟩ := p.pl.ok
  have hz' : (s.zero s.c.X).1 = z := hz
  have hs' : (s.zero s.c.X).2 = s' := hs
  have Hhz' := Lib.hid hz'
  have Hhs' := Lib.hid hs'
  clear hz hs hz' hs'
  go_enter Tryz.func142, Tryz.ntmps142
  obtain ⟨g0, g1, g2, g3, g4, g5, g6, g7, g8, g9, g10, g11, g12, g13, g15, gf⟩ := p.cells
  rw [hk] at g13
  go_wp2_with fail
  refine (p.zero _ s.c.X rfl hX (by omega) Hhz'.out Hhs'.out).mono ?_
  rintro e w1 ⟨rfl, p2⟩
  clear g0 g1 g2 g3 g4 g5 g6 g7 g8 g9 g10 g11 g12 g13 g15 gf
  go_wp2
  go_ret
  refine ⟨rfl, ?_⟩
  exact p2

set_option maxRecDepth 100000 in
theorem Play.place_5 {F : Nat → Prop} {w W : World} {P : Nat} {o : Option Nat} {k : OpK} {s : St} {N : Nat} (p : Play F w W P o k s N) (hk : k.md = 5) (hN : N ≤ 86) {z : Nat} {s' : St} (hz : (s.place 5 k.kd).1 = z) (hs : (s.place 5 k.kd).2 = s') :
    Calls Tryz.prog 142 #[.pointer (some ⟨P, 0, none⟩)] W fun e w' => e = .returned (.int .u16 (z : Int)) ∧ Play F w w' P o k s' (N + 2) := by
  obtain ⟨hA, hX, hY, hS, hP⟩ := p.pl.ok
  have hz' : (s.zero s.c.Y).1 = z := hz
  have hs' : (s.zero s.c.Y).2 = s' := hs
  have Hhz' := Lib.hid hz'
  have Hhs' := Lib.hid hs'
  clear hz hs hz' hs'
  go_enter Tryz.func142, Tryz.ntmps142
  obtain ⟨g0, g1, g2, g3, g4, g5, g6, g7, g8, g9, g10, g11, g12, g13, g15, gf⟩ := p.cells
  rw [hk] at g13
  go_wp2_with fail
  refine (p.zero _ s.c.Y rfl hY (by omega) Hhz'.out Hhs'.out).mono ?_
  rintro e w1 ⟨rfl, p2⟩
  clear g0 g1 g2 g3 g4 g5 g6 g7 g8 g9 g10 g11 g12 g13 g15 gf
  go_wp2
  go_ret
  refine ⟨rfl, ?_⟩
  exact p2

set_option maxRecDepth 100000 in
theorem Play.place_6 {F : Nat → Prop} {w W : World} {P : Nat} {o : Option Nat} {k : OpK} {s : St} {N : Nat} (p : Play F w W P o k s N) (hk : k.md = 6) (hN : N ≤ 86) {z : Nat} {s' : St} (hz : (s.place 6 k.kd).1 = z) (hs : (s.place 6 k.kd).2 = s') :
    Calls Tryz.prog 142 #[.pointer (some ⟨P, 0, none⟩)] W fun e w' => e = .returned (.int .u16 (z : Int)) ∧ Play F w w' P o k s' (N + 2) := by
  obtain ⟨hA, hX, hY, hS, hP⟩ := p.pl.ok
  have hz' : s.fetchW.1 = z := hz
  have hs' : s.fetchW.2 = s' := hs
  have Hhz' := Lib.hid hz'
  have Hhs' := Lib.hid hs'
  clear hz hs hz' hs'
  go_enter Tryz.func142, Tryz.ntmps142
  obtain ⟨g0, g1, g2, g3, g4, g5, g6, g7, g8, g9, g10, g11, g12, g13, g15, gf⟩ := p.cells
  rw [hk] at g13
  go_wp2_with fail
  refine (p.fetchW (by omega) Hhz'.out Hhs'.out).mono ?_
  rintro e w1 ⟨rfl, p2⟩
  clear g0 g1 g2 g3 g4 g5 g6 g7 g8 g9 g10 g11 g12 g13 g15 gf
  go_wp2
  go_ret
  refine ⟨rfl, ?_⟩
  exact p2

set_option maxRecDepth 100000 in
theorem Play.place_7 {F : Nat → Prop} {w W : World} {P : Nat} {o : Option Nat} {k : OpK} {s : St} {N : Nat} (p : Play F w W P o k s N) (hk : k.md = 7) (hN : N ≤ 84) {z : Nat} {s' : St} (hz : (s.place 7 k.kd).1 = z) (hs : (s.place 7 k.kd).2 = s') :
    Calls Tryz.prog 142 #[.pointer (some ⟨P, 0, none⟩)] W fun e w' => e = .returned (.int .u16 (z : Int)) ∧ Play F w w' P o k s' (N + 3) := by
  obtain ⟨hA, hX, hY, hS, hP⟩ := p.pl.ok
  obtain ⟨z1, hz1⟩ : ∃ r_, s.fetchW.1 = r_ := ⟨_, rfl⟩
  obtain ⟨s1, hs1⟩ : ∃ r_, s.fetchW.2 = r_ := ⟨_, rfl⟩
  obtain ⟨r, hr⟩ : ∃ r_, s.c.X = r_ := ⟨_, rfl⟩
  have z1b : z1 < 65536 := by rw [← hz1]; exact word_lt (p.byte _) (p.byte_fetch _)
  have er : s1.c.X = r := by rw [← hs1, ← hr]; rfl
  have rb : r < 256 := by omega
  have hz' : (s1.indexed z1 r k.kd).1 = z := by rw [← hs1, ← hz1, ← hr]; exact hz
  have hs' : (s1.indexed z1 r k.kd).2 = s' := by rw [← hs1, ← hz1, ← hr]; exact hs
  have Her := Lib.hid er
  clear er
  have Hhz' := Lib.hid hz'
  have Hhs' := Lib.hid hs'
  clear hz hs hz' hs'
  have Hz1 := Lib.hid hz1
  have Hs1 := Lib.hid hs1
  have Hr := Lib.hid hr
  clear hz1 hs1 hr
  go_enter Tryz.func142, Tryz.ntmps142
  obtain ⟨g0, g1, g2, g3, g4, g5, g6, g7, g8, g9, g10, g11, g12, g13, g15, gf⟩ := p.cells
  rw [hk] at g13
  go_wp2_with fail
  have p1 := p.drew
  clear g0 g1 g2 g3 g4 g5 g6 g7 g8 g9 g10 g11 g12 g13 g15 gf
  have g2 : W.drew.cell? ⟨P, 1, none⟩ = some (.int .u8 (r : Int)) := (by rw [← Hr.out]; exact p1.cells.2.1)
  go_region_held3 (fun w' => w'.cell? ⟨P, 1, none⟩ = some (.int .u8 (r : Int))) (((try dsimp only); (first | (with_reducible exact g2) | (with_reducible exact hh5) | (with_reducible exact hh8)))) (first | (go_at_call 146; refine (p1.fetchW (by omega) Hz1.out Hs1.out).mono ?_; rintro e w3 ⟨rfl, p4⟩; (have hh5 : w3.cell? ⟨P, 1, none⟩ = some (.int .u8 (r : Int)) := by rw [← Her.out]; exact p4.cells.2.1)) | (go_at_call 167; refine (p4.indexed z1 r z1b rb (by omega) Hhz'.out Hhs'.out).mono ?_; rintro e w6 ⟨rfl, p7⟩; (have hh8 : w6.cell? ⟨P, 1, none⟩ = some (.int .u8 (r : Int)) := by rw [← (show s'.c.X = r by rw [← Hhs'.out, ← Her.out]; exact St.indexed_X _ _ _ _)]; exact p7.cells.2.1)))
  clear g2 hh5 hh8
  go_wp2
  go_ret
  refine ⟨rfl, ?_⟩
  exact p7

set_option maxRecDepth 100000 in
theorem Play.place_8 {F : Nat → Prop} {w W : World} {P : Nat} {o : Option Nat} {k : OpK} {s : St} {N : Nat} (p : Play F w W P o k s N) (hk : k.md = 8) (hN : N ≤ 84) {z : Nat} {s' : St} (hz : (s.place 8 k.kd).1 = z) (hs : (s.place 8 k.kd).2 = s') :
    Calls Tryz.prog 142 #[.pointer (some ⟨P, 0, none⟩)] W fun e w' => e = .returned (.int .u16 (z : Int)) ∧ Play F w w' P o k s' (N + 3) := by
  obtain ⟨hA, hX, hY, hS, hP⟩ := p.pl.ok
  obtain ⟨z1, hz1⟩ : ∃ r_, s.fetchW.1 = r_ := ⟨_, rfl⟩
  obtain ⟨s1, hs1⟩ : ∃ r_, s.fetchW.2 = r_ := ⟨_, rfl⟩
  obtain ⟨r, hr⟩ : ∃ r_, s.c.Y = r_ := ⟨_, rfl⟩
  have z1b : z1 < 65536 := by rw [← hz1]; exact word_lt (p.byte _) (p.byte_fetch _)
  have er : s1.c.Y = r := by rw [← hs1, ← hr]; rfl
  have rb : r < 256 := by omega
  have hz' : (s1.indexed z1 r k.kd).1 = z := by rw [← hs1, ← hz1, ← hr]; exact hz
  have hs' : (s1.indexed z1 r k.kd).2 = s' := by rw [← hs1, ← hz1, ← hr]; exact hs
  have Her := Lib.hid er
  clear er
  have Hhz' := Lib.hid hz'
  have Hhs' := Lib.hid hs'
  clear hz hs hz' hs'
  have Hz1 := Lib.hid hz1
  have Hs1 := Lib.hid hs1
  have Hr := Lib.hid hr
  clear hz1 hs1 hr
  go_enter Tryz.func142, Tryz.ntmps142
  obtain ⟨g0, g1, g2, g3, g4, g5, g6, g7, g8, g9, g10, g11, g12, g13, g15, gf⟩ := p.cells
  rw [hk] at g13
  go_wp2_with fail
  have p1 := p.drew
  clear g0 g1 g2 g3 g4 g5 g6 g7 g8 g9 g10 g11 g12 g13 g15 gf
  have g2 : W.drew.cell? ⟨P, 2, none⟩ = some (.int .u8 (r : Int)) := (by rw [← Hr.out]; exact p1.cells.2.2.1)
  go_region_held3 (fun w' => w'.cell? ⟨P, 2, none⟩ = some (.int .u8 (r : Int))) (((try dsimp only); (first | (with_reducible exact g2) | (with_reducible exact hh5) | (with_reducible exact hh8)))) (first | (go_at_call 146; refine (p1.fetchW (by omega) Hz1.out Hs1.out).mono ?_; rintro e w3 ⟨rfl, p4⟩; (have hh5 : w3.cell? ⟨P, 2, none⟩ = some (.int .u8 (r : Int)) := by rw [← Her.out]; exact p4.cells.2.2.1)) | (go_at_call 167; refine (p4.indexed z1 r z1b rb (by omega) Hhz'.out Hhs'.out).mono ?_; rintro e w6 ⟨rfl, p7⟩; (have hh8 : w6.cell? ⟨P, 2, none⟩ = some (.int .u8 (r : Int)) := by rw [← (show s'.c.Y = r by rw [← Hhs'.out, ← Her.out]; exact St.indexed_Y _ _ _ _)]; exact p7.cells.2.2.1)))
  clear g2 hh5 hh8
  go_wp2
  go_ret
  refine ⟨rfl, ?_⟩
  exact p7

set_option maxRecDepth 100000 in
theorem Play.place_10 {F : Nat → Prop} {w W : World} {P : Nat} {o : Option Nat} {k : OpK} {s : St} {N : Nat} (p : Play F w W P o k s N) (hk : k.md = 10) (hN : N ≤ 82) {z : Nat} {s' : St} (hz : (s.place 10 k.kd).1 = z) (hs : (s.place 10 k.kd).2 = s') :
    Calls Tryz.prog 142 #[.pointer (some ⟨P, 0, none⟩)] W fun e w' => e = .returned (.int .u16 (z : Int)) ∧ Play F w w' P o k s' (N + 4) := by
  obtain ⟨hA, hX, hY, hS, hP⟩ := p.pl.ok
  obtain ⟨z1, hz1⟩ : ∃ r_, (s.zero s.c.X).1 = r_ := ⟨_, rfl⟩
  obtain ⟨s1, hs1⟩ : ∃ r_, (s.zero s.c.X).2 = r_ := ⟨_, rfl⟩
  have z1b : z1 < 65536 := by rw [← hz1]; show (_ + _) % 256 < 65536; omega
  have hz' : (s1.readW z1).1 = z := by rw [← hs1, ← hz1]; exact hz
  have hs' : (s1.readW z1).2 = s' := by rw [← hs1, ← hz1]; exact hs
  have Hhz' := Lib.hid hz'
  have Hhs' := Lib.hid hs'
  clear hz hs hz' hs'
  have Hz1 := Lib.hid hz1
  have Hs1 := Lib.hid hs1
  clear hz1 hs1
  go_enter Tryz.func142, Tryz.ntmps142
  obtain ⟨g0, g1, g2, g3, g4, g5, g6, g7, g8, g9, g10, g11, g12, g13, g15, gf⟩ := p.cells
  rw [hk] at g13
  go_wp2_with fail
  refine (p.zero _ s.c.X rfl hX (by omega) Hz1.out Hs1.out).mono ?_
  rintro e w1 ⟨rfl, p2⟩
  clear g0 g1 g2 g3 g4 g5 g6 g7 g8 g9 g10 g11 g12 g13 g15 gf
  go_wp2_with fail
  refine (p2.readW _ z1 rfl z1b (by omega) Hhz'.out Hhs'.out).mono ?_
  rintro e w3 ⟨rfl, p4⟩
  clear p2
  go_wp2
  go_ret
  refine ⟨rfl, ?_⟩
  exact p4

set_option maxRecDepth 100000 in
theorem Play.place_11 {F : Nat → Prop} {w W : World} {P : Nat} {o : Option Nat} {k : OpK} {s : St} {N : Nat} (p : Play F w W P o k s N) (hk : k.md = 11) (hN : N ≤ 82) {z : Nat} {s' : St} (hz : (s.place 11 k.kd).1 = z) (hs : (s.place 11 k.kd).2 = s') :
    Calls Tryz.prog 142 #[.pointer (some ⟨P, 0, none⟩)] W fun e w' => e = .returned (.int .u16 (z : Int)) ∧ Play F w w' P o k s' (N + 4) := by
  obtain ⟨hA, hX, hY, hS, hP⟩ := p.pl.ok
  obtain ⟨z1, hz1⟩ : ∃ r_, s.fetch.1 = r_ := ⟨_, rfl⟩
  obtain ⟨s1, hs1⟩ : ∃ r_, s.fetch.2 = r_ := ⟨_, rfl⟩
  obtain ⟨z2, hz2⟩ : ∃ r_, (s1.readW z1).1 = r_ := ⟨_, rfl⟩
  obtain ⟨s2, hs2⟩ : ∃ r_, (s1.readW z1).2 = r_ := ⟨_, rfl⟩
  obtain ⟨r, hr⟩ : ∃ r_, s.c.Y = r_ := ⟨_, rfl⟩
  have z1b : z1 < 256 := by rw [← hz1]; exact p.byte _
  have z2b : z2 < 65536 := by rw [← hz2, ← hs1]; exact word_lt (p.byte_fetch _) (p.byte_read _ _)
  have er1 : s1.c.Y = r := by rw [← hs1, ← hr]; rfl
  have er2 : s2.c.Y = r := by rw [← hs2, ← er1]; rfl
  have rb : r < 256 := by omega
  have hz' : (s2.indexed z2 r k.kd).1 = z := by rw [← hs2, ← hz2, ← hs1, ← hz1, ← hr]; exact hz
  have hs' : (s2.indexed z2 r k.kd).2 = s' := by rw [← hs2, ← hz2, ← hs1, ← hz1, ← hr]; exact hs
  have Her1 := Lib.hid er1
  have Her2 := Lib.hid er2
  clear er1 er2
  have Hhz' := Lib.hid hz'
  have Hhs' := Lib.hid hs'
  clear hz hs hz' hs'
  have Hz1 := Lib.hid hz1
  have Hs1 := Lib.hid hs1
  have Hz2 := Lib.hid hz2
  have Hs2 := Lib.hid hs2
  have Hr := Lib.hid hr
  clear hz1 hs1 hz2 hs2 hr
  go_enter Tryz.func142, Tryz.ntmps142
  obtain ⟨g0, g1, g2, g3, g4, g5, g6, g7, g8, g9, g10, g11, g12, g13, g15, gf⟩ := p.cells
  rw [hk] at g13
  go_wp2_with fail
  have p1 := p.drew
  clear g0 g1 g2 g3 g4 g5 g6 g7 g8 g9 g10 g11 g12 g13 g15 gf
  have g2 : W.drew.cell? ⟨P, 2, none⟩ = some (.int .u8 (r : Int)) := (by rw [← Hr.out]; exact p1.cells.2.2.1)
  go_region_held3 (fun w' => w'.cell? ⟨P, 2, none⟩ = some (.int .u8 (r : Int))) (((try dsimp only); (first | (with_reducible exact g2) | (with_reducible exact hh5) | (with_reducible exact hh8) | (with_reducible exact hh11)))) (first | (go_at_call 75; refine (p1.fetch (by omega) Hz1.out Hs1.out).mono ?_; rintro e w3 ⟨rfl, p4⟩; (have hh5 : w3.cell? ⟨P, 2, none⟩ = some (.int .u8 (r : Int)) := by rw [← Her1.out]; exact p4.cells.2.2.1)) | (go_at_call 135; refine (p4.readW _ z1 (by first | omega | (simp only [IntKind.wrap, IntKind.bits, IntKind.signed]; simp; omega)) (by omega) (by omega) Hz2.out Hs2.out).mono ?_; rintro e w6 ⟨rfl, p7⟩; (have hh8 : w6.cell? ⟨P, 2, none⟩ = some (.int .u8 (r : Int)) := by rw [← Her2.out]; exact p7.cells.2.2.1)) | (go_at_call 167; refine (p7.indexed z2 r z2b rb (by omega) Hhz'.out Hhs'.out).mono ?_; rintro e w9 ⟨rfl, p10⟩; (have hh11 : w9.cell? ⟨P, 2, none⟩ = some (.int .u8 (r : Int)) := by rw [← (show s'.c.Y = r by rw [← Hhs'.out, ← Her2.out]; exact St.indexed_Y _ _ _ _)]; exact p10.cells.2.2.1)))
  clear g2 hh5 hh8 hh11
  go_wp2
  go_ret
  refine ⟨rfl, ?_⟩
  exact p10

theorem Play.place {F : Nat → Prop} {w W : World} {P : Nat} {o : Option Nat} {k : OpK} {s : St} {N : Nat} (p : Play F w W P o k s N) (hm : k.md = 2 ∨ k.md = 3 ∨ k.md = 4 ∨ k.md = 5 ∨ k.md = 6 ∨ k.md = 7 ∨ k.md = 8 ∨ k.md = 10 ∨ k.md = 11) (hN : N ≤ 80) {z : Nat} {s' : St} (hz : (s.place k.md k.kd).1 = z) (hs : (s.place k.md k.kd).2 = s') :
    Calls Tryz.prog 142 #[.pointer (some ⟨P, 0, none⟩)] W fun e w' => e = .returned (.int .u16 (z : Int)) ∧ Play F w w' P o k s' (N + 4) := by
  have M := fun {w1 : World} {v : Value} {e : Ending} {n : Nat} (hn : n ≤ 4) (h : e = .returned v ∧ Play F w w1 P o k s' (N + n)) => (⟨h.1, h.2.mono (by omega)⟩ : e = .returned v ∧ Play F w w1 P o k s' (N + 4))
  rcases hm with h | h | h | h | h | h | h | h | h <;> rw [h] at hz hs
  · exact (p.place_2 h (by omega) hz hs).mono fun _ _ h => M (by omega) h
  · exact (p.place_3 h (by omega) hz hs).mono fun _ _ h => M (by omega) h
  · exact (p.place_4 h (by omega) hz hs).mono fun _ _ h => M (by omega) h
  · exact (p.place_5 h (by omega) hz hs).mono fun _ _ h => M (by omega) h
  · exact (p.place_6 h (by omega) hz hs).mono fun _ _ h => M (by omega) h
  · exact (p.place_7 h (by omega) hz hs).mono fun _ _ h => M (by omega) h
  · exact (p.place_8 h (by omega) hz hs).mono fun _ _ h => M (by omega) h
  · exact (p.place_10 h (by omega) hz hs).mono fun _ _ h => M (by omega) h
  · exact (p.place_11 h (by omega) hz hs).mono fun _ _ h => M (by omega) h

end Go.Proofs.YtblchdmemhhcbaaGreat

namespace Go.Proofs.YtblchdmemhhcbaaGreat
set_option linter.unusedVariables false
set_option linter.unusedSimpArgs false
open Go.RowKit

theorem Play.place_lt {F : Nat → Prop} {w W : World} {P : Nat} {o : Option Nat} {k : OpK} {s : St} {N : Nat} (p : Play F w W P o k s N) (hm : k.md = 2 ∨ k.md = 3 ∨ k.md = 4 ∨ k.md = 5 ∨ k.md = 6 ∨ k.md = 7 ∨ k.md = 8 ∨ k.md = 10 ∨ k.md = 11) : (s.place k.md k.kd).1 < 65536 := by
  obtain ⟨hA, hX, hY, hS, hP⟩ := p.pl.ok
  have h1 := p.byte s.c.PC
  rcases hm with h | h | h | h | h | h | h | h | h <;> rw [h]
  · show s.c.PC < 65536; omega
  · show s.b.get s.c.PC < 65536; omega
  · show (_ + _) % 256 < 65536; omega
  · show (_ + _) % 256 < 65536; omega
  · exact word_lt (p.byte _) (p.byte_fetch _)
  · show (_ + _) % 65536 < 65536; omega
  · show (_ + _) % 65536 < 65536; omega
  · exact word_lt (p.byte _) (p.byte _)
  · show (_ + _) % 65536 < 65536; omega

theorem Play.store_lt {F : Nat → Prop} {w W : World} {P : Nat} {o : Option Nat} {k : OpK} {s : St} {N : Nat} (p : Play F w W P o k s N) {l : List UInt8} : storeL s.c l < 256 := by
  obtain ⟨hA, hX, hY, hS, hP⟩ := p.pl.ok
  unfold storeL
  repeat' split
  all_goals omega

set_option maxRecDepth 100000 in
theorem Play.playRead {F : Nat → Prop} {w W : World} {P : Nat} {o : Option Nat} {k : OpK} {s : St} {N : Nat} (p : Play F w W P o k s N) (i : Nat) (hi : i ∈ [1, 2, 3, 4, 6, 7, 8, 14, 24, 25, 26, 31]) (hk : k.nm = opTx i) (hpm : k.md = 2 ∨ k.md = 3 ∨ k.md = 4 ∨ k.md = 5 ∨ k.md = 6 ∨ k.md = 7 ∨ k.md = 8 ∨ k.md = 10 ∨ k.md = 11) (hN : N ≤ 80) {s' : St} (hs : s.readP (opTx i).toList k.md k.kd = s') :
    Calls Tryz.prog 109 #[.pointer (some ⟨P, 0, none⟩)] W fun e w' => e = .returned (.tuple #[]) ∧ Play F w w' P o k s' (N + 5) := by
  obtain ⟨hA, hX, hY, hS, hP⟩ := p.pl.ok
  obtain ⟨a, ha⟩ : ∃ r_, (s.place k.md k.kd).1 = r_ := ⟨_, rfl⟩
  obtain ⟨s1, hs1⟩ : ∃ r_, (s.place k.md k.kd).2 = r_ := ⟨_, rfl⟩
  have ab : a < 65536 := by rw [← ha]; exact p.place_lt hpm
  obtain ⟨v, hv⟩ : ∃ r_, s1.b.get a = r_ := ⟨_, rfl⟩
  obtain ⟨b1, hb1⟩ : ∃ r_, s1.b.rd a = r_ := ⟨_, rfl⟩
  have hs' : (⟨useL s1.c (opTx i).toList v, b1⟩ : St) = s' := by rw [← hs, ← hb1, ← hv, ← hs1, ← ha]; rfl
  have Hhs' := Lib.hid hs'
  clear hs hs'
  have Ha := Lib.hid ha
  have Hs1 := Lib.hid hs1
  have Hv := Lib.hid hv
  have Hb1 := Lib.hid hb1
  clear ha hs1 hv hb1
  obtain ⟨hm0, hm1⟩ := methR
  rcases o with _ | B
  · go_enter Tryz.func109, Tryz.ntmps109
    obtain ⟨g0, g1, g2, g3, g4, g5, g6, g7, g8, g9, g10, g11, g12, g13, g15, gf⟩ := p.cells
    go_wp2_with fail
    have p1 := p.drew
    clear g0 g1 g2 g3 g4 g5 g6 g7 g8 g9 g10 g11 g12 g13 g15 gf
    have g2 : W.drew.cell? ⟨P, 11, none⟩ = some (busV none) := p1.cells.2.2.2.2.2.2.2.2.2.2.2.1
    go_region_held3 (fun w' => w'.cell? ⟨P, 11, none⟩ = some (busV none)) (((try dsimp only); (first | (with_reducible exact g2) | (with_reducible exact hh5) | (with_reducible exact hh8) | (with_reducible exact hh11)))) (first | (go_at_call 142; refine (p1.place hpm (by omega) Ha.out Hs1.out).mono ?_; rintro e w3 ⟨rfl, p4⟩; (have hh5 : w3.cell? ⟨P, 11, none⟩ = some (busV none) := p4.cells.2.2.2.2.2.2.2.2.2.2.2.1)) | (refine (p4.read _ a rfl ab (by omega) Hv.out (s' := ⟨s1.c, b1⟩) (by rw [← Hb1.out])).mono ?_; rintro e w6 ⟨rfl, p7⟩; (have hh8 : w6.cell? ⟨P, 11, none⟩ = some (busV none) := p7.cells.2.2.2.2.2.2.2.2.2.2.2.1)) | (go_at_call 141; refine (p7.use_any i hi hk v (by rw [← Hv.out]; exact p4.byte _) (by omega) Hhs'.out).mono ?_; rintro e w9 ⟨rfl, p10⟩; (have hh11 : w9.cell? ⟨P, 11, none⟩ = some (busV none) := p10.cells.2.2.2.2.2.2.2.2.2.2.2.1)))
    clear g2 hh5 hh8 hh11
    go_wp2
    (try simp only [Exit.inBlock, Exit.then])
    first | refine bodyPost_ret (results_none rfl _ _ _) rfl ?_ | refine bodyPost_end (results_none rfl _ _ _) rfl ?_
    refine ⟨rfl, ?_⟩
    exact p10
  · go_enter Tryz.func109, Tryz.ntmps109
    obtain ⟨g0, g1, g2, g3, g4, g5, g6, g7, g8, g9, g10, g11, g12, g13, g15, gf⟩ := p.cells
    go_wp2_with fail
    have p1 := p.drew
    clear g0 g1 g2 g3 g4 g5 g6 g7 g8 g9 g10 g11 g12 g13 g15 gf
    have g2 : W.drew.cell? ⟨P, 11, none⟩ = some (busV (some B)) := p1.cells.2.2.2.2.2.2.2.2.2.2.2.1
    go_region_held3 (fun w' => w'.cell? ⟨P, 11, none⟩ = some (busV (some B))) (((try dsimp only); (first | (with_reducible exact g2) | (with_reducible exact hh5) | (with_reducible exact hh8) | (with_reducible exact hh11)))) (first | (go_at_call 142; refine (p1.place hpm (by omega) Ha.out Hs1.out).mono ?_; rintro e w3 ⟨rfl, p4⟩; (have hh5 : w3.cell? ⟨P, 11, none⟩ = some (busV (some B)) := p4.cells.2.2.2.2.2.2.2.2.2.2.2.1)) | (refine (p4.read _ a rfl ab (by omega) Hv.out (s' := ⟨s1.c, b1⟩) (by rw [← Hb1.out])).mono ?_; rintro e w6 ⟨rfl, p7⟩; (have hh8 : w6.cell? ⟨P, 11, none⟩ = some (busV (some B)) := p7.cells.2.2.2.2.2.2.2.2.2.2.2.1)) | (go_at_call 141; refine (p7.use_any i hi hk v (by rw [← Hv.out]; exact p4.byte _) (by omega) Hhs'.out).mono ?_; rintro e w9 ⟨rfl, p10⟩; (have hh11 : w9.cell? ⟨P, 11, none⟩ = some (busV (some B)) := p10.cells.2.2.2.2.2.2.2.2.2.2.2.1)))
    clear g2 hh5 hh8 hh11
    go_wp2
    (try simp only [Exit.inBlock, Exit.then])
    first | refine bodyPost_ret (results_none rfl _ _ _) rfl ?_ | refine bodyPost_end (results_none rfl _ _ _) rfl ?_
    refine ⟨rfl, ?_⟩
    exact p10

set_option maxRecDepth 100000 in
theorem Play.playWrite {F : Nat → Prop} {w W : World} {P : Nat} {o : Option Nat} {k : OpK} {s : St} {N : Nat} (p : Play F w W P o k s N) (i : Nat) (hi : i ∈ [5, 13, 23]) (hk : k.nm = opTx i) (hpm : k.md = 2 ∨ k.md = 3 ∨ k.md = 4 ∨ k.md = 5 ∨ k.md = 6 ∨ k.md = 7 ∨ k.md = 8 ∨ k.md = 10 ∨ k.md = 11) (hN : N ≤ 80) {s' : St} (hs : s.writeP (opTx i).toList k.md k.kd = s') :
    Calls Tryz.prog 110 #[.pointer (some ⟨P, 0, none⟩)] W fun e w' => e = .returned (.tuple #[]) ∧ Play F w w' P o k s' (N + 5) := by
  obtain ⟨hA, hX, hY, hS, hP⟩ := p.pl.ok
  obtain ⟨a, ha⟩ : ∃ r_, (s.place k.md k.kd).1 = r_ := ⟨_, rfl⟩
  obtain ⟨s1, hs1⟩ : ∃ r_, (s.place k.md k.kd).2 = r_ := ⟨_, rfl⟩
  have ab : a < 65536 := by rw [← ha]; exact p.place_lt hpm
  obtain ⟨v, hv⟩ : ∃ r_, storeL s1.c (opTx i).toList = r_ := ⟨_, rfl⟩
  obtain ⟨b1, hb1⟩ : ∃ r_, s1.b.put a v = r_ := ⟨_, rfl⟩
  have hs' : (⟨s1.c, b1⟩ : St) = s' := by rw [← hs, ← hb1, ← hv, ← hs1, ← ha]; rfl
  have Hhs' := Lib.hid hs'
  clear hs hs'
  have Ha := Lib.hid ha
  have Hs1 := Lib.hid hs1
  have Hv := Lib.hid hv
  have Hb1 := Lib.hid hb1
  clear ha hs1 hv hb1
  obtain ⟨hm0, hm1⟩ := methW
  rcases o with _ | B
  · go_enter Tryz.func110, Tryz.ntmps110
    obtain ⟨g0, g1, g2, g3, g4, g5, g6, g7, g8, g9, g10, g11, g12, g13, g15, gf⟩ := p.cells
    go_wp2_with fail
    have p1 := p.drew
    clear g0 g1 g2 g3 g4 g5 g6 g7 g8 g9 g10 g11 g12 g13 g15 gf
    have g2 : W.drew.cell? ⟨P, 11, none⟩ = some (busV none) := p1.cells.2.2.2.2.2.2.2.2.2.2.2.1
    go_region_held3 (fun w' => w'.cell? ⟨P, 11, none⟩ = some (busV none)) (((try dsimp only); (first | (with_reducible exact g2) | (with_reducible exact hh5) | (with_reducible exact hh9)))) (first | (go_at_call 142; refine (p1.place hpm (by omega) Ha.out Hs1.out).mono ?_; rintro e w3 ⟨rfl, p4⟩; (have hh5 : w3.cell? ⟨P, 11, none⟩ = some (busV none) := p4.cells.2.2.2.2.2.2.2.2.2.2.2.1)) | (go_at_call 143; refine (p4.stored_any i hi hk).mono ?_; rintro e w6 ⟨rfl, rfl⟩) | (refine (p4.write _ _ a v rfl (by rw [← Hv.out]) ab (by rw [← Hv.out]; exact p4.store_lt) (by omega) (s' := ⟨s1.c, b1⟩) (by rw [← Hb1.out])).mono ?_; rintro e w7 ⟨rfl, p8⟩; (have hh9 : w7.cell? ⟨P, 11, none⟩ = some (busV none) := p8.cells.2.2.2.2.2.2.2.2.2.2.2.1)))
    clear g2 hh5 hh9
    go_wp2
    (try simp only [Exit.inBlock, Exit.then])
    first | refine bodyPost_ret (results_none rfl _ _ _) rfl ?_ | refine bodyPost_end (results_none rfl _ _ _) rfl ?_
    refine ⟨rfl, ?_⟩
    exact (by rw [← Hhs'.out]; exact p8)
  · go_enter Tryz.func110, Tryz.ntmps110
    obtain ⟨g0, g1, g2, g3, g4, g5, g6, g7, g8, g9, g10, g11, g12, g13, g15, gf⟩ := p.cells
    go_wp2_with fail
    have p1 := p.drew
    clear g0 g1 g2 g3 g4 g5 g6 g7 g8 g9 g10 g11 g12 g13 g15 gf
    have g2 : W.drew.cell? ⟨P, 11, none⟩ = some (busV (some B)) := p1.cells.2.2.2.2.2.2.2.2.2.2.2.1
    go_region_held3 (fun w' => w'.cell? ⟨P, 11, none⟩ = some (busV (some B))) (((try dsimp only); (first | (with_reducible exact g2) | (with_reducible exact hh5) | (with_reducible exact hh9)))) (first | (go_at_call 142; refine (p1.place hpm (by omega) Ha.out Hs1.out).mono ?_; rintro e w3 ⟨rfl, p4⟩; (have hh5 : w3.cell? ⟨P, 11, none⟩ = some (busV (some B)) := p4.cells.2.2.2.2.2.2.2.2.2.2.2.1)) | (go_at_call 143; refine (p4.stored_any i hi hk).mono ?_; rintro e w6 ⟨rfl, rfl⟩) | (refine (p4.write _ _ a v rfl (by rw [← Hv.out]) ab (by rw [← Hv.out]; exact p4.store_lt) (by omega) (s' := ⟨s1.c, b1⟩) (by rw [← Hb1.out])).mono ?_; rintro e w7 ⟨rfl, p8⟩; (have hh9 : w7.cell? ⟨P, 11, none⟩ = some (busV (some B)) := p8.cells.2.2.2.2.2.2.2.2.2.2.2.1)))
    clear g2 hh5 hh9
    go_wp2
    (try simp only [Exit.inBlock, Exit.then])
    first | refine bodyPost_ret (results_none rfl _ _ _) rfl ?_ | refine bodyPost_end (results_none rfl _ _ _) rfl ?_
    refine ⟨rfl, ?_⟩
    exact (by rw [← Hhs'.out]; exact p8)

set_option maxRecDepth 100000 in
set_option maxHeartbeats 2000000 in
theorem Play.playModify {F : Nat → Prop} {w W : World} {P : Nat} {o : Option Nat} {k : OpK} {s : St} {N : Nat} (p : Play F w W P o k s N) (i : Nat) (hi : i ∈ [9, 10, 11, 12, 15, 16]) (hk : k.nm = opTx i) (hpm : k.md = 2 ∨ k.md = 3 ∨ k.md = 4 ∨ k.md = 5 ∨ k.md = 6 ∨ k.md = 7 ∨ k.md = 8 ∨ k.md = 10 ∨ k.md = 11) (hN : N ≤ 76) {s' : St} (hs : s.modP (opTx i).toList k.md k.kd = s') :
    Calls Tryz.prog 111 #[.pointer (some ⟨P, 0, none⟩)] W fun e w' => e = .returned (.tuple #[]) ∧ Play F w w' P o k s' (N + 7) := by
  obtain ⟨hA, hX, hY, hS, hP⟩ := p.pl.ok
  obtain ⟨hn0, hn1⟩ := methW
  obtain ⟨a, ha⟩ : ∃ r_, (s.place k.md k.kd).1 = r_ := ⟨_, rfl⟩
  obtain ⟨s1, hs1⟩ : ∃ r_, (s.place k.md k.kd).2 = r_ := ⟨_, rfl⟩
  have ab : a < 65536 := by rw [← ha]; exact p.place_lt hpm
  obtain ⟨v, hv⟩ : ∃ r_, s1.b.get a = r_ := ⟨_, rfl⟩
  obtain ⟨b1, hb1⟩ : ∃ r_, s1.b.rd a = r_ := ⟨_, rfl⟩
  obtain ⟨b2, hb2⟩ : ∃ r_, b1.put a v = r_ := ⟨_, rfl⟩
  obtain ⟨y, hy⟩ : ∃ r_, chgB (opTx i).toList v s1.c.C = r_ := ⟨_, rfl⟩
  obtain ⟨b3, hb3⟩ : ∃ r_, b2.put a y = r_ := ⟨_, rfl⟩
  have hs' : (⟨s1.c.chg (opTx i).toList v, b3⟩ : St) = s' := by rw [← hs, ← hb3, ← hy, ← hb2, ← hb1, ← hv, ← hs1, ← ha]; rfl
  have Hhs' := Lib.hid hs'
  clear hs hs'
  have Ha := Lib.hid ha
  have Hs1 := Lib.hid hs1
  have Hv := Lib.hid hv
  have Hb1 := Lib.hid hb1
  have Hb2 := Lib.hid hb2
  have Hy := Lib.hid hy
  have Hb3 := Lib.hid hb3
  clear ha hs1 hv hb1 hb2 hy hb3
  obtain ⟨hm0, hm1⟩ := methR
  rcases o with _ | B
  · go_enter Tryz.func111, Tryz.ntmps111
    obtain ⟨g0, g1, g2, g3, g4, g5, g6, g7, g8, g9, g10, g11, g12, g13, g15, gf⟩ := p.cells
    go_wp2_with fail
    refine (p.place hpm (by omega) Ha.out Hs1.out).mono ?_
    rintro e w1 ⟨rfl, p2⟩
    clear g0 g1 g2 g3 g4 g5 g6 g7 g8 g9 g10 g11 g12 g13 g15 gf
    have vb : v < 256 := by rw [← Hv.out]; exact p2.byte _
    have yb : y < 256 := by rw [← Hy.out]; exact chgB_256 vb
    obtain ⟨g0, g1, g2, g3, g4, g5, g6, g7, g8, g9, g10, g11, g12, g13, g15, gf⟩ := p2.cells
    go_wp2_with fail
    refine (p2.read _ a rfl ab (by omega) Hv.out (s' := ⟨s1.c, b1⟩) (by rw [← Hb1.out])).mono ?_
    rintro e w3 ⟨rfl, p4⟩
    clear g0 g1 g2 g3 g4 g5 g6 g7 g8 g9 g10 g11 g12 g13 g15 gf
    clear p2
    obtain ⟨g0, g1, g2, g3, g4, g5, g6, g7, g8, g9, g10, g11, g12, g13, g15, gf⟩ := p4.cells
    go_wp2_with fail
    refine (p4.write _ _ a v rfl rfl ab vb (by omega) (s' := ⟨s1.c, b2⟩) (by rw [← Hb2.out])).mono ?_
    rintro e w5 ⟨rfl, p6⟩
    clear g0 g1 g2 g3 g4 g5 g6 g7 g8 g9 g10 g11 g12 g13 g15 gf
    clear p4
    obtain ⟨g0, g1, g2, g3, g4, g5, g6, g7, g8, g9, g10, g11, g12, g13, g15, gf⟩ := p6.cells
    go_wp2_with fail
    have p7 := p6.drew
    clear g0 g1 g2 g3 g4 g5 g6 g7 g8 g9 g10 g11 g12 g13 g15 gf
    have g8 : w5.drew.cell? ⟨P, 11, none⟩ = some (busV none) := p7.cells.2.2.2.2.2.2.2.2.2.2.2.1
    go_region_held3 (fun w' => w'.cell? ⟨P, 11, none⟩ = some (busV none)) (((try dsimp only); (first | (with_reducible exact g8) | (with_reducible exact hh11) | (with_reducible exact hh14)))) (first | (go_at_call 137; refine (p7.remade_any i hi hk v vb (by omega) Hy.out (s' := ⟨s1.c.chg (opTx i).toList v, b2⟩) rfl).mono ?_; rintro e w9 ⟨rfl, p10⟩; (have hh11 : w9.cell? ⟨P, 11, none⟩ = some (busV none) := p10.cells.2.2.2.2.2.2.2.2.2.2.2.1)) | (refine (p10.write _ _ a y rfl rfl ab yb (by omega) (s' := ⟨s1.c.chg (opTx i).toList v, b3⟩) (by rw [← Hb3.out])).mono ?_; rintro e w12 ⟨rfl, p13⟩; (have hh14 : w12.cell? ⟨P, 11, none⟩ = some (busV none) := p13.cells.2.2.2.2.2.2.2.2.2.2.2.1)))
    clear g8 hh11 hh14
    go_wp2
    (try simp only [Exit.inBlock, Exit.then])
    first | refine bodyPost_ret (results_none rfl _ _ _) rfl ?_ | refine bodyPost_end (results_none rfl _ _ _) rfl ?_
    refine ⟨rfl, ?_⟩
    exact (by rw [← Hhs'.out]; exact p13)
  · go_enter Tryz.func111, Tryz.ntmps111
    obtain ⟨g0, g1, g2, g3, g4, g5, g6, g7, g8, g9, g10, g11, g12, g13, g15, gf⟩ := p.cells
    go_wp2_with fail
    refine (p.place hpm (by omega) Ha.out Hs1.out).mono ?_
    rintro e w1 ⟨rfl, p2⟩
    clear g0 g1 g2 g3 g4 g5 g6 g7 g8 g9 g10 g11 g12 g13 g15 gf
    have vb : v < 256 := by rw [← Hv.out]; exact p2.byte _
    have yb : y < 256 := by rw [← Hy.out]; exact chgB_256 vb
    obtain ⟨g0, g1, g2, g3, g4, g5, g6, g7, g8, g9, g10, g11, g12, g13, g15, gf⟩ := p2.cells
    go_wp2_with fail
    refine (p2.read _ a rfl ab (by omega) Hv.out (s' := ⟨s1.c, b1⟩) (by rw [← Hb1.out])).mono ?_
    rintro e w3 ⟨rfl, p4⟩
    clear g0 g1 g2 g3 g4 g5 g6 g7 g8 g9 g10 g11 g12 g13 g15 gf
    clear p2
    obtain ⟨g0, g1, g2, g3, g4, g5, g6, g7, g8, g9, g10, g11, g12, g13, g15, gf⟩ := p4.cells
    go_wp2_with fail
    refine (p4.write _ _ a v rfl rfl ab vb (by omega) (s' := ⟨s1.c, b2⟩) (by rw [← Hb2.out])).mono ?_
    rintro e w5 ⟨rfl, p6⟩
    clear g0 g1 g2 g3 g4 g5 g6 g7 g8 g9 g10 g11 g12 g13 g15 gf
    clear p4
    obtain ⟨g0, g1, g2, g3, g4, g5, g6, g7, g8, g9, g10, g11, g12, g13, g15, gf⟩ := p6.cells
    go_wp2_with fail
    have p7 := p6.drew
    clear g0 g1 g2 g3 g4 g5 g6 g7 g8 g9 g10 g11 g12 g13 g15 gf
    have g8 : w5.drew.cell? ⟨P, 11, none⟩ = some (busV (some B)) := p7.cells.2.2.2.2.2.2.2.2.2.2.2.1
    go_region_held3 (fun w' => w'.cell? ⟨P, 11, none⟩ = some (busV (some B))) (((try dsimp only); (first | (with_reducible exact g8) | (with_reducible exact hh11) | (with_reducible exact hh14)))) (first | (go_at_call 137; refine (p7.remade_any i hi hk v vb (by omega) Hy.out (s' := ⟨s1.c.chg (opTx i).toList v, b2⟩) rfl).mono ?_; rintro e w9 ⟨rfl, p10⟩; (have hh11 : w9.cell? ⟨P, 11, none⟩ = some (busV (some B)) := p10.cells.2.2.2.2.2.2.2.2.2.2.2.1)) | (refine (p10.write _ _ a y rfl rfl ab yb (by omega) (s' := ⟨s1.c.chg (opTx i).toList v, b3⟩) (by rw [← Hb3.out])).mono ?_; rintro e w12 ⟨rfl, p13⟩; (have hh14 : w12.cell? ⟨P, 11, none⟩ = some (busV (some B)) := p13.cells.2.2.2.2.2.2.2.2.2.2.2.1)))
    clear g8 hh11 hh14
    go_wp2
    (try simp only [Exit.inBlock, Exit.then])
    first | refine bodyPost_ret (results_none rfl _ _ _) rfl ?_ | refine bodyPost_end (results_none rfl _ _ _) rfl ?_
    refine ⟨rfl, ?_⟩
    exact (by rw [← Hhs'.out]; exact p13)

end Go.Proofs.YtblchdmemhhcbaaGreat
