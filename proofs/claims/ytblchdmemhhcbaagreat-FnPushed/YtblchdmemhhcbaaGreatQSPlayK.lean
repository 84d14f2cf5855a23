/-
  Contracts over the program: what a player does by any operation's name.
-/
import Derived.Test.YtblchdmemhhcbaaGreatQSPlayB
import Derived.Test.YtblchdmemhhcbaaGreatQSAluD
import Derived.Test.YtblchdmemhhcbaaGreatQSStepA
import Derived.Test.YtblchdmemhhcbaaGreatQSPlayF
import Derived.Test.YtblchdmemhhcbaaGreatQSPlayG
import Derived.Test.YtblchdmemhhcbaaGreatQSPlayH
import Derived.Test.YtblchdmemhhcbaaGreatQSAluNum
namespace Go.Proofs.YtblchdmemhhcbaaGreat
set_option linter.unusedVariables false
set_option linter.unusedSimpArgs false
open Go.RowKit

theorem adc_at (a b : Nat) (n v d i z c : Bool) (w : World) (h1 : a < 256) (h3 : b < 256) {x : Nat} {n' v' z' c' : Bool} (hx : adR a b d c = (x : Int)) (hn : adN a b d c = n') (hv : adV a b d c = v') (hz : adZ a b c = z') (hc : adC a b d c = c') :
    Calls Tryz.prog 161 #[.int .u8 (a : Int), .int .u8 (b : Int), .agg #[.bool n, .bool v, .bool d, .bool i, .bool z, .bool c]] w fun e w' => e = .returned (.tuple #[.int .u8 (x : Int), .agg #[.bool n', .bool v', .bool d, .bool i, .bool z', .bool c']]) ∧ Below w.heap.size w w' := by
  subst hn hv hz hc
  rw [← hx]
  exact implAdc_any _ _ _ _ _ _ _ _ _ (by omega) (by omega) (by omega) (by omega)

theorem sbc_at (a b : Nat) (n v d i z c : Bool) (w : World) (h1 : a < 256) (h3 : b < 256) {x : Nat} {n' v' z' c' : Bool} (hx : sbR a b d c = (x : Int)) (hn : bit7 (plR a (255 - b) c) = n') (hv : plV a (255 - b) c = v') (hz : isZ (plR a (255 - b) c) = z') (hc : plC a (255 - b) c = c') :
    Calls Tryz.prog 162 #[.int .u8 (a : Int), .int .u8 (b : Int), .agg #[.bool n, .bool v, .bool d, .bool i, .bool z, .bool c]] w fun e w' => e = .returned (.tuple #[.int .u8 (x : Int), .agg #[.bool n', .bool v', .bool d, .bool i, .bool z', .bool c']]) ∧ Below w.heap.size w w' := by
  subst hn hv hz hc
  rw [← hx]
  exact implSbc_any _ _ _ _ _ _ _ _ _ (by omega) (by omega) (by omega) (by omega)

set_option maxRecDepth 100000 in
set_option maxHeartbeats 4000000 in
theorem Play.use_ADC {F : Nat → Prop} {w W : World} {P : Nat} {o : Option Nat} {k : OpK} {s : St} {N : Nat} (p : Play F w W P o k s N) (hk : k.nm = ⟨#[65, 68, 67]⟩) (m : Nat) (hm : m < 256) (hN : N ≤ 90) {s' : St} (hs : ⟨useL s.c [65, 68, 67] m, s.b⟩ = s') :
    Calls Tryz.prog 141 #[.pointer (some ⟨P, 0, none⟩), .int .u8 (m : Int)] W fun e w' => e = .returned (.tuple #[]) ∧ Play F w w' P o k s' (N + 0) := by
  obtain ⟨hA, hX, hY, hS, hP⟩ := p.pl.ok
  obtain ⟨x, hx⟩ := nat_of (adR_bd (s.c.A : Int) (m : Int) s.c.D s.c.C).1
  have hxb : x < 256 := by have := (adR_bd (s.c.A : Int) (m : Int) s.c.D s.c.C).2; omega
  obtain ⟨n1, hn1⟩ : ∃ r_, adN s.c.A m s.c.D s.c.C = r_ := ⟨_, rfl⟩
  obtain ⟨v1, hv1⟩ : ∃ r_, adV s.c.A m s.c.D s.c.C = r_ := ⟨_, rfl⟩
  obtain ⟨y1, hy1⟩ : ∃ r_, adZ s.c.A m s.c.C = r_ := ⟨_, rfl⟩
  obtain ⟨c1, hc1⟩ : ∃ r_, adC s.c.A m s.c.D s.c.C = r_ := ⟨_, rfl⟩
  have hs' : (⟨{ s.c with A := x, N := n1, V := v1, D := s.c.D, I := s.c.I, Z := y1, C := c1 }, s.b⟩ : St) = s' := by rw [← hs]; simp [useL, hx, hn1, hv1, hy1, hc1]
  have HS := Lib.hid hs'
  clear hs hs'
  have Hx := Lib.hid hx
  have Hn1 := Lib.hid hn1
  have Hv1 := Lib.hid hv1
  have Hy1 := Lib.hid hy1
  have Hc1 := Lib.hid hc1
  clear hx hn1 hv1 hy1 hc1
  go_enter Tryz.func141, Tryz.ntmps141
  obtain ⟨g0, g1, g2, g3, g4, g5, g6, g7, g8, g9, g10, g11, g12, g13, g15, gf⟩ := p.cells
  rw [hk] at g12
  go_wp2_with fail
  clear g0 g1 g2 g3 g4 g5 g6 g7 g8 g9 g10 g11 g12 g13 g15 gf
  go_wp2_with fail
  have p1 := p.drew
  have g0 := p1.cells.1
  have g5 := p1.cells.2.2.2.2.2.1
  have g6 := p1.cells.2.2.2.2.2.2.1
  have g7 := p1.cells.2.2.2.2.2.2.2.1
  have g8 := p1.cells.2.2.2.2.2.2.2.2.1
  have g9 := p1.cells.2.2.2.2.2.2.2.2.2.1
  have g10 := p1.cells.2.2.2.2.2.2.2.2.2.2.1
  have gf := p1.cells.2.2.2.2.2.2.2.2.2.2.2.2.2.2.2
  go_region_with (go_at_call 161; refine (adc_at _ _ _ _ _ _ _ _ _ hA hm Hx.out Hn1.out Hv1.out Hy1.out Hc1.out).mono ?_; rintro e w2 ⟨rfl, d3⟩; (have p4 := p1.below d3); clear g0 g5 g6 g7 g8 g9 g10 gf; (have g0 := p4.cells.1); (have g5 := p4.cells.2.2.2.2.2.1); (have g6 := p4.cells.2.2.2.2.2.2.1); (have g7 := p4.cells.2.2.2.2.2.2.2.1); (have g8 := p4.cells.2.2.2.2.2.2.2.2.1); (have g9 := p4.cells.2.2.2.2.2.2.2.2.2.1); (have g10 := p4.cells.2.2.2.2.2.2.2.2.2.2.1); (have gf := p4.cells.2.2.2.2.2.2.2.2.2.2.2.2.2.2.2))
  all_goals
    go_wp2
    (try simp only [Exit.inBlock, Exit.then])
    first | refine bodyPost_ret (results_none rfl _ _ _) rfl ?_ | refine bodyPost_end (results_none rfl _ _ _) rfl ?_
    refine ⟨rfl, ?_⟩
    exact ((p4.setA _ x rfl hxb rfl).flags _ _ _ _ _ _ HS.out)

set_option maxRecDepth 100000 in
set_option maxHeartbeats 4000000 in
theorem Play.use_SBC {F : Nat → Prop} {w W : World} {P : Nat} {o : Option Nat} {k : OpK} {s : St} {N : Nat} (p : Play F w W P o k s N) (hk : k.nm = ⟨#[83, 66, 67]⟩) (m : Nat) (hm : m < 256) (hN : N ≤ 90) {s' : St} (hs : ⟨useL s.c [83, 66, 67] m, s.b⟩ = s') :
    Calls Tryz.prog 141 #[.pointer (some ⟨P, 0, none⟩), .int .u8 (m : Int)] W fun e w' => e = .returned (.tuple #[]) ∧ Play F w w' P o k s' (N + 0) := by
  obtain ⟨hA, hX, hY, hS, hP⟩ := p.pl.ok
  obtain ⟨x, hx⟩ := nat_of (sbR_bd (s.c.A : Int) (m : Int) s.c.D s.c.C).1
  have hxb : x < 256 := by have := (sbR_bd (s.c.A : Int) (m : Int) s.c.D s.c.C).2; omega
  obtain ⟨n1, hn1⟩ : ∃ r_, bit7 (plR s.c.A (255 - m) s.c.C) = r_ := ⟨_, rfl⟩
  obtain ⟨v1, hv1⟩ : ∃ r_, plV s.c.A (255 - m) s.c.C = r_ := ⟨_, rfl⟩
  obtain ⟨y1, hy1⟩ : ∃ r_, isZ (plR s.c.A (255 - m) s.c.C) = r_ := ⟨_, rfl⟩
  obtain ⟨c1, hc1⟩ : ∃ r_, plC s.c.A (255 - m) s.c.C = r_ := ⟨_, rfl⟩
  have hs' : (⟨{ s.c with A := x, N := n1, V := v1, D := s.c.D, I := s.c.I, Z := y1, C := c1 }, s.b⟩ : St) = s' := by rw [← hs]; simp [useL, hx, hn1, hv1, hy1, hc1]
  have HS := Lib.hid hs'
  clear hs hs'
  have Hx := Lib.hid hx
  have Hn1 := Lib.hid hn1
  have Hv1 := Lib.hid hv1
  have Hy1 := Lib.hid hy1
  have Hc1 := Lib.hid hc1
  clear hx hn1 hv1 hy1 hc1
  go_enter Tryz.func141, Tryz.ntmps141
  obtain ⟨g0, g1, g2, g3, g4, g5, g6, g7, g8, g9, g10, g11, g12, g13, g15, gf⟩ := p.cells
  rw [hk] at g12
  go_wp2_with fail
  clear g0 g1 g2 g3 g4 g5 g6 g7 g8 g9 g10 g11 g12 g13 g15 gf
  go_wp2_with fail
  have p1 := p.drew
  have g0 := p1.cells.1
  have g5 := p1.cells.2.2.2.2.2.1
  have g6 := p1.cells.2.2.2.2.2.2.1
  have g7 := p1.cells.2.2.2.2.2.2.2.1
  have g8 := p1.cells.2.2.2.2.2.2.2.2.1
  have g9 := p1.cells.2.2.2.2.2.2.2.2.2.1
  have g10 := p1.cells.2.2.2.2.2.2.2.2.2.2.1
  have gf := p1.cells.2.2.2.2.2.2.2.2.2.2.2.2.2.2.2
  go_region_with (go_at_call 162; refine (sbc_at _ _ _ _ _ _ _ _ _ hA hm Hx.out Hn1.out Hv1.out Hy1.out Hc1.out).mono ?_; rintro e w2 ⟨rfl, d3⟩; (have p4 := p1.below d3); clear g0 g5 g6 g7 g8 g9 g10 gf; (have g0 := p4.cells.1); (have g5 := p4.cells.2.2.2.2.2.1); (have g6 := p4.cells.2.2.2.2.2.2.1); (have g7 := p4.cells.2.2.2.2.2.2.2.1); (have g8 := p4.cells.2.2.2.2.2.2.2.2.1); (have g9 := p4.cells.2.2.2.2.2.2.2.2.2.1); (have g10 := p4.cells.2.2.2.2.2.2.2.2.2.2.1); (have gf := p4.cells.2.2.2.2.2.2.2.2.2.2.2.2.2.2.2))
  all_goals
    go_wp2
    (try simp only [Exit.inBlock, Exit.then])
    first | refine bodyPost_ret (results_none rfl _ _ _) rfl ?_ | refine bodyPost_end (results_none rfl _ _ _) rfl ?_
    refine ⟨rfl, ?_⟩
    exact ((p4.setA _ x rfl hxb rfl).flags _ _ _ _ _ _ HS.out)

set_option maxRecDepth 100000 in
set_option maxHeartbeats 2000000 in
theorem Play.use_CMP {F : Nat → Prop} {w W : World} {P : Nat} {o : Option Nat} {k : OpK} {s : St} {N : Nat} (p : Play F w W P o k s N) (hk : k.nm = ⟨#[67, 77, 80]⟩) (m : Nat) (hm : m < 256) (hN : N ≤ 90) {s' : St} (hs : ⟨useL s.c [67, 77, 80] m, s.b⟩ = s') :
    Calls Tryz.prog 141 #[.pointer (some ⟨P, 0, none⟩), .int .u8 (m : Int)] W fun e w' => e = .returned (.tuple #[]) ∧ Play F w w' P o k s' (N + 0) := by
  obtain ⟨hA, hX, hY, hS, hP⟩ := p.pl.ok
  go_enter Tryz.func141, Tryz.ntmps141
  obtain ⟨g0, g1, g2, g3, g4, g5, g6, g7, g8, g9, g10, g11, g12, g13, g15, gf⟩ := p.cells
  rw [hk] at g12
  go_wp2_with fail
  clear g0 g1 g2 g3 g4 g5 g6 g7 g8 g9 g10 g11 g12 g13 g15 gf
  go_wp2_with fail
  have p1 := p.drew
  have g0 := p1.cells.1
  have g5 := p1.cells.2.2.2.2.2.1
  have g6 := p1.cells.2.2.2.2.2.2.1
  have g7 := p1.cells.2.2.2.2.2.2.2.1
  have g8 := p1.cells.2.2.2.2.2.2.2.2.1
  have g9 := p1.cells.2.2.2.2.2.2.2.2.2.1
  have g10 := p1.cells.2.2.2.2.2.2.2.2.2.2.1
  have gf := p1.cells.2.2.2.2.2.2.2.2.2.2.2.2.2.2.2
  go_region_with (go_at_call 163; refine (implCmp_any _ _ _ _ _ _ _ _ (by omega) (by omega) (by omega) (by omega) _).mono ?_; rintro e w2 ⟨rfl, d3⟩; (have p4 := p1.below d3); clear g0 g5 g6 g7 g8 g9 g10 gf; (have g0 := p4.cells.1); (have g5 := p4.cells.2.2.2.2.2.1); (have g6 := p4.cells.2.2.2.2.2.2.1); (have g7 := p4.cells.2.2.2.2.2.2.2.1); (have g8 := p4.cells.2.2.2.2.2.2.2.2.1); (have g9 := p4.cells.2.2.2.2.2.2.2.2.2.1); (have g10 := p4.cells.2.2.2.2.2.2.2.2.2.2.1); (have gf := p4.cells.2.2.2.2.2.2.2.2.2.2.2.2.2.2.2))
  all_goals
    go_wp2
    (try simp only [Exit.inBlock, Exit.then])
    first | refine bodyPost_ret (results_none rfl _ _ _) rfl ?_ | refine bodyPost_end (results_none rfl _ _ _) rfl ?_
    refine ⟨rfl, ?_⟩
    exact p4.flags _ _ _ _ _ _ (by rw [← hs]; simp [useL])

set_option maxRecDepth 100000 in
set_option maxHeartbeats 2000000 in
theorem Play.use_CPX {F : Nat → Prop} {w W : World} {P : Nat} {o : Option Nat} {k : OpK} {s : St} {N : Nat} (p : Play F w W P o k s N) (hk : k.nm = ⟨#[67, 80, 88]⟩) (m : Nat) (hm : m < 256) (hN : N ≤ 90) {s' : St} (hs : ⟨useL s.c [67, 80, 88] m, s.b⟩ = s') :
    Calls Tryz.prog 141 #[.pointer (some ⟨P, 0, none⟩), .int .u8 (m : Int)] W fun e w' => e = .returned (.tuple #[]) ∧ Play F w w' P o k s' (N + 0) := by
  obtain ⟨hA, hX, hY, hS, hP⟩ := p.pl.ok
  go_enter Tryz.func141, Tryz.ntmps141
  obtain ⟨g0, g1, g2, g3, g4, g5, g6, g7, g8, g9, g10, g11, g12, g13, g15, gf⟩ := p.cells
  rw [hk] at g12
  go_wp2_with fail
  clear g0 g1 g2 g3 g4 g5 g6 g7 g8 g9 g10 g11 g12 g13 g15 gf
  go_wp2_with fail
  have p1 := p.drew
  have g1 := p1.cells.2.1
  have g5 := p1.cells.2.2.2.2.2.1
  have g6 := p1.cells.2.2.2.2.2.2.1
  have g7 := p1.cells.2.2.2.2.2.2.2.1
  have g8 := p1.cells.2.2.2.2.2.2.2.2.1
  have g9 := p1.cells.2.2.2.2.2.2.2.2.2.1
  have g10 := p1.cells.2.2.2.2.2.2.2.2.2.2.1
  have gf := p1.cells.2.2.2.2.2.2.2.2.2.2.2.2.2.2.2
  go_region_with (go_at_call 163; refine (implCmp_any _ _ _ _ _ _ _ _ (by omega) (by omega) (by omega) (by omega) _).mono ?_; rintro e w2 ⟨rfl, d3⟩; (have p4 := p1.below d3); clear g1 g5 g6 g7 g8 g9 g10 gf; (have g1 := p4.cells.2.1); (have g5 := p4.cells.2.2.2.2.2.1); (have g6 := p4.cells.2.2.2.2.2.2.1); (have g7 := p4.cells.2.2.2.2.2.2.2.1); (have g8 := p4.cells.2.2.2.2.2.2.2.2.1); (have g9 := p4.cells.2.2.2.2.2.2.2.2.2.1); (have g10 := p4.cells.2.2.2.2.2.2.2.2.2.2.1); (have gf := p4.cells.2.2.2.2.2.2.2.2.2.2.2.2.2.2.2))
  all_goals
    go_wp2
    (try simp only [Exit.inBlock, Exit.then])
    first | refine bodyPost_ret (results_none rfl _ _ _) rfl ?_ | refine bodyPost_end (results_none rfl _ _ _) rfl ?_
    refine ⟨rfl, ?_⟩
    exact p4.flags _ _ _ _ _ _ (by rw [← hs]; simp [useL])

set_option maxRecDepth 100000 in
set_option maxHeartbeats 2000000 in
theorem Play.use_CPY {F : Nat → Prop} {w W : World} {P : Nat} {o : Option Nat} {k : OpK} {s : St} {N : Nat} (p : Play F w W P o k s N) (hk : k.nm = ⟨#[67, 80, 89]⟩) (m : Nat) (hm : m < 256) (hN : N ≤ 90) {s' : St} (hs : ⟨useL s.c [67, 80, 89] m, s.b⟩ = s') :
    Calls Tryz.prog 141 #[.pointer (some ⟨P, 0, none⟩), .int .u8 (m : Int)] W fun e w' => e = .returned (.tuple #[]) ∧ Play F w w' P o k s' (N + 0) := by
  obtain ⟨hA, hX, hY, hS, hP⟩ := p.pl.ok
  go_enter Tryz.func141, Tryz.ntmps141
  obtain ⟨g0, g1, g2, g3, g4, g5, g6, g7, g8, g9, g10, g11, g12, g13, g15, gf⟩ := p.cells
  rw [hk] at g12
  go_wp2_with fail
  clear g0 g1 g2 g3 g4 g5 g6 g7 g8 g9 g10 g11 g12 g13 g15 gf
  go_wp2_with fail
  have p1 := p.drew
  have g2 := p1.cells.2.2.1
  have g5 := p1.cells.2.2.2.2.2.1
  have g6 := p1.cells.2.2.2.2.2.2.1
  have g7 := p1.cells.2.2.2.2.2.2.2.1
  have g8 := p1.cells.2.2.2.2.2.2.2.2.1
  have g9 := p1.cells.2.2.2.2.2.2.2.2.2.1
  have g10 := p1.cells.2.2.2.2.2.2.2.2.2.2.1
  have gf := p1.cells.2.2.2.2.2.2.2.2.2.2.2.2.2.2.2
  go_region_with (go_at_call 163; refine (implCmp_any _ _ _ _ _ _ _ _ (by omega) (by omega) (by omega) (by omega) _).mono ?_; rintro e w2 ⟨rfl, d3⟩; (have p4 := p1.below d3); clear g2 g5 g6 g7 g8 g9 g10 gf; (have g2 := p4.cells.2.2.1); (have g5 := p4.cells.2.2.2.2.2.1); (have g6 := p4.cells.2.2.2.2.2.2.1); (have g7 := p4.cells.2.2.2.2.2.2.2.1); (have g8 := p4.cells.2.2.2.2.2.2.2.2.1); (have g9 := p4.cells.2.2.2.2.2.2.2.2.2.1); (have g10 := p4.cells.2.2.2.2.2.2.2.2.2.2.1); (have gf := p4.cells.2.2.2.2.2.2.2.2.2.2.2.2.2.2.2))
  all_goals
    go_wp2
    (try simp only [Exit.inBlock, Exit.then])
    first | refine bodyPost_ret (results_none rfl _ _ _) rfl ?_ | refine bodyPost_end (results_none rfl _ _ _) rfl ?_
    refine ⟨rfl, ?_⟩
    exact p4.flags _ _ _ _ _ _ (by rw [← hs]; simp [useL])

set_option maxRecDepth 100000 in
set_option maxHeartbeats 2000000 in
theorem Play.use_BIT {F : Nat → Prop} {w W : World} {P : Nat} {o : Option Nat} {k : OpK} {s : St} {N : Nat} (p : Play F w W P o k s N) (hk : k.nm = ⟨#[66, 73, 84]⟩) (m : Nat) (hm : m < 256) (hN : N ≤ 90) {s' : St} (hs : ⟨useL s.c [66, 73, 84] m, s.b⟩ = s') :
    Calls Tryz.prog 141 #[.pointer (some ⟨P, 0, none⟩), .int .u8 (m : Int)] W fun e w' => e = .returned (.tuple #[]) ∧ Play F w w' P o k s' (N + 0) := by
  obtain ⟨hA, hX, hY, hS, hP⟩ := p.pl.ok
  go_enter Tryz.func141, Tryz.ntmps141
  obtain ⟨g0, g1, g2, g3, g4, g5, g6, g7, g8, g9, g10, g11, g12, g13, g15, gf⟩ := p.cells
  rw [hk] at g12
  go_wp2_with fail
  clear g0 g1 g2 g3 g4 g5 g6 g7 g8 g9 g10 g11 g12 g13 g15 gf
  go_wp2_with fail
  have p1 := p.drew
  have g0 := p1.cells.1
  have g5 := p1.cells.2.2.2.2.2.1
  have g6 := p1.cells.2.2.2.2.2.2.1
  have g7 := p1.cells.2.2.2.2.2.2.2.1
  have g8 := p1.cells.2.2.2.2.2.2.2.2.1
  have g9 := p1.cells.2.2.2.2.2.2.2.2.2.1
  have g10 := p1.cells.2.2.2.2.2.2.2.2.2.2.1
  have gf := p1.cells.2.2.2.2.2.2.2.2.2.2.2.2.2.2.2
  go_region_with (go_at_call 164; refine (implBitTest_any _ _ _ _ _ _ _ _ (by omega) (by omega) _).mono ?_; rintro e w2 ⟨rfl, d3⟩; (have p4 := p1.below d3); clear g0 g5 g6 g7 g8 g9 g10 gf; (have g0 := p4.cells.1); (have g5 := p4.cells.2.2.2.2.2.1); (have g6 := p4.cells.2.2.2.2.2.2.1); (have g7 := p4.cells.2.2.2.2.2.2.2.1); (have g8 := p4.cells.2.2.2.2.2.2.2.2.1); (have g9 := p4.cells.2.2.2.2.2.2.2.2.2.1); (have g10 := p4.cells.2.2.2.2.2.2.2.2.2.2.1); (have gf := p4.cells.2.2.2.2.2.2.2.2.2.2.2.2.2.2.2))
  all_goals
    go_wp2
    (try simp only [Exit.inBlock, Exit.then])
    first | refine bodyPost_ret (results_none rfl _ _ _) rfl ?_ | refine bodyPost_end (results_none rfl _ _ _) rfl ?_
    refine ⟨rfl, ?_⟩
    exact p4.flags _ _ _ _ _ _ (by rw [← hs]; simp [useL])

end Go.Proofs.YtblchdmemhhcbaaGreat

namespace Go.Proofs.YtblchdmemhhcbaaGreat
set_option linter.unusedVariables false
set_option linter.unusedSimpArgs false
open Go.RowKit

theorem Play.use_any {F : Nat → Prop} {w W : World} {P : Nat} {o : Option Nat} {k : OpK} {s : St} {N : Nat} (p : Play F w W P o k s N) (i : Nat) (hi : i ∈ [1, 2, 3, 4, 6, 7, 8, 14, 24, 25, 26, 31]) (hk : k.nm = opTx i) (m : Nat) (hm : m < 256) (hN : N ≤ 90) {s' : St} (hs : (⟨useL s.c (opTx i).toList m, s.b⟩ : St) = s') :
    Calls Tryz.prog 141 #[.pointer (some ⟨P, 0, none⟩), .int .u8 (m : Int)] W fun e w' => e = .returned (.tuple #[]) ∧ Play F w w' P o k s' (N + 0) := by
  simp only [List.mem_cons, List.not_mem_nil, or_false] at hi
  rcases hi with rfl | rfl | rfl | rfl | rfl | rfl | rfl | rfl | rfl | rfl | rfl | rfl
  · rw [show (opTx 1).toList = [79, 82, 65] by rw [ByteArray.toList_eq]; rfl] at hs; exact p.use_ORA hk m hm hN hs
  · rw [show (opTx 2).toList = [65, 78, 68] by rw [ByteArray.toList_eq]; rfl] at hs; exact p.use_AND hk m hm hN hs
  · rw [show (opTx 3).toList = [69, 79, 82] by rw [ByteArray.toList_eq]; rfl] at hs; exact p.use_EOR hk m hm hN hs
  · rw [show (opTx 4).toList = [65, 68, 67] by rw [ByteArray.toList_eq]; rfl] at hs; exact p.use_ADC hk m hm hN hs
  · rw [show (opTx 6).toList = [76, 68, 65] by rw [ByteArray.toList_eq]; rfl] at hs; exact p.use_LDA hk m hm hN hs
  · rw [show (opTx 7).toList = [67, 77, 80] by rw [ByteArray.toList_eq]; rfl] at hs; exact p.use_CMP hk m hm hN hs
  · rw [show (opTx 8).toList = [83, 66, 67] by rw [ByteArray.toList_eq]; rfl] at hs; exact p.use_SBC hk m hm hN hs
  · rw [show (opTx 14).toList = [76, 68, 88] by rw [ByteArray.toList_eq]; rfl] at hs; exact p.use_LDX hk m hm hN hs
  · rw [show (opTx 24).toList = [76, 68, 89] by rw [ByteArray.toList_eq]; rfl] at hs; exact p.use_LDY hk m hm hN hs
  · rw [show (opTx 25).toList = [67, 80, 89] by rw [ByteArray.toList_eq]; rfl] at hs; exact p.use_CPY hk m hm hN hs
  · rw [show (opTx 26).toList = [67, 80, 88] by rw [ByteArray.toList_eq]; rfl] at hs; exact p.use_CPX hk m hm hN hs
  · rw [show (opTx 31).toList = [66, 73, 84] by rw [ByteArray.toList_eq]; rfl] at hs; exact p.use_BIT hk m hm hN hs

theorem Play.remade_any {F : Nat → Prop} {w W : World} {P : Nat} {o : Option Nat} {k : OpK} {s : St} {N : Nat} (p : Play F w W P o k s N) (i : Nat) (hi : i ∈ [9, 10, 11, 12, 15, 16]) (hk : k.nm = opTx i) (m : Nat) (hm : m < 256) (hN : N ≤ 90) {z : Nat} {s' : St} (hz : chgB (opTx i).toList m s.c.C = z) (hs : (⟨s.c.chg (opTx i).toList m, s.b⟩ : St) = s') :
    Calls Tryz.prog 137 #[.pointer (some ⟨P, 0, none⟩), .int .u8 (m : Int)] W fun e w' => e = .returned (.int .u8 (z : Int)) ∧ Play F w w' P o k s' (N + 0) := by
  simp only [List.mem_cons, List.not_mem_nil, or_false] at hi
  rcases hi with rfl | rfl | rfl | rfl | rfl | rfl
  · rw [show (opTx 9).toList = [65, 83, 76] by rw [ByteArray.toList_eq]; rfl] at hz hs; exact p.remade_ASL hk m hm hN hz hs
  · rw [show (opTx 10).toList = [82, 79, 76] by rw [ByteArray.toList_eq]; rfl] at hz hs; exact p.remade_ROL hk m hm hN hz hs
  · rw [show (opTx 11).toList = [76, 83, 82] by rw [ByteArray.toList_eq]; rfl] at hz hs; exact p.remade_LSR hk m hm hN hz hs
  · rw [show (opTx 12).toList = [82, 79, 82] by rw [ByteArray.toList_eq]; rfl] at hz hs; exact p.remade_ROR hk m hm hN hz hs
  · rw [show (opTx 15).toList = [68, 69, 67] by rw [ByteArray.toList_eq]; rfl] at hz hs; exact p.remade_DEC hk m hm hN hz hs
  · rw [show (opTx 16).toList = [73, 78, 67] by rw [ByteArray.toList_eq]; rfl] at hz hs; exact p.remade_INC hk m hm hN hz hs

theorem Play.branches_any {F : Nat → Prop} {w W : World} {P : Nat} {o : Option Nat} {k : OpK} {s : St} {N : Nat} (p : Play F w W P o k s N) (i : Nat) (hi : i ∈ [41, 42, 43, 44, 45, 46, 47, 48]) (hk : k.nm = opTx i) :
    Calls Tryz.prog 144 #[.pointer (some ⟨P, 0, none⟩)] W fun e w' => e = .returned (.bool (holdsL s.c (opTx i).toList)) ∧ W = w' := by
  simp only [List.mem_cons, List.not_mem_nil, or_false] at hi
  rcases hi with rfl | rfl | rfl | rfl | rfl | rfl | rfl | rfl
  · rw [show (opTx 41).toList = [66, 80, 76] by rw [ByteArray.toList_eq]; rfl]; exact p.branches_BPL hk
  · rw [show (opTx 42).toList = [66, 77, 73] by rw [ByteArray.toList_eq]; rfl]; exact p.branches_BMI hk
  · rw [show (opTx 43).toList = [66, 86, 67] by rw [ByteArray.toList_eq]; rfl]; exact p.branches_BVC hk
  · rw [show (opTx 44).toList = [66, 86, 83] by rw [ByteArray.toList_eq]; rfl]; exact p.branches_BVS hk
  · rw [show (opTx 45).toList = [66, 67, 67] by rw [ByteArray.toList_eq]; rfl]; exact p.branches_BCC hk
  · rw [show (opTx 46).toList = [66, 67, 83] by rw [ByteArray.toList_eq]; rfl]; exact p.branches_BCS hk
  · rw [show (opTx 47).toList = [66, 78, 69] by rw [ByteArray.toList_eq]; rfl]; exact p.branches_BNE hk
  · rw [show (opTx 48).toList = [66, 69, 81] by rw [ByteArray.toList_eq]; rfl]; exact p.branches_BEQ hk

theorem Play.stored_any {F : Nat → Prop} {w W : World} {P : Nat} {o : Option Nat} {k : OpK} {s : St} {N : Nat} (p : Play F w W P o k s N) (i : Nat) (hi : i ∈ [5, 13, 23]) (hk : k.nm = opTx i) :
    Calls Tryz.prog 143 #[.pointer (some ⟨P, 0, none⟩)] W fun e w' => e = .returned (.int .u8 ((storeL s.c (opTx i).toList : Nat) : Int)) ∧ W = w' := by
  simp only [List.mem_cons, List.not_mem_nil, or_false] at hi
  rcases hi with rfl | rfl | rfl
  · rw [show (opTx 5).toList = [83, 84, 65] by rw [ByteArray.toList_eq]; rfl]; exact p.stored_STA hk
  · rw [show (opTx 13).toList = [83, 84, 88] by rw [ByteArray.toList_eq]; rfl]; exact p.stored_STX hk
  · rw [show (opTx 23).toList = [83, 84, 89] by rw [ByteArray.toList_eq]; rfl]; exact p.stored_STY hk

end Go.Proofs.YtblchdmemhhcbaaGreat
