/-
  Contracts over the program: an interrupt; places with a register.
-/
import Derived.Test.YtblchdmemhhcbaaGreatQStepPlayE
namespace Go.Proofs.YtblchdmemhhcbaaGreat
set_option linter.unusedVariables false
set_option linter.unusedSimpArgs false
open Go.RowKit

theorem word_lt {a b : Nat} (ha : a < 256) (hb : b < 256) : word a b < 65536 := by unfold word; omega

theorem BusO.byteRd {w : World} {F : Nat → Prop} {o : Option Nat} {b : BusN} (h : BusO w F o b) (a c : Nat) : (b.rd a).get c < 256 := h.byte c

theorem St.indexed_X (s : St) (a i : Nat) (k : Int) : (s.indexed a i k).2.c.X = s.c.X := by unfold St.indexed; dsimp only; split <;> rfl

theorem St.indexed_Y (s : St) (a i : Nat) (k : Int) : (s.indexed a i k).2.c.Y = s.c.Y := by unfold St.indexed; dsimp only; split <;> rfl

theorem Play.byte_fetch {F : Nat → Prop} {w W : World} {P : Nat} {o : Option Nat} {k : OpK} {s : St} {N : Nat} (p : Play F w W P o k s N) (a : Nat) : s.fetch.2.b.get a < 256 := p.pl.bus.byteRd _ _

theorem Play.byte_read {F : Nat → Prop} {w W : World} {P : Nat} {o : Option Nat} {k : OpK} {s : St} {N : Nat} (p : Play F w W P o k s N) (a c : Nat) : ((⟨s.c, s.fetch.2.b.rd a⟩ : St)).b.get c < 256 := p.pl.bus.byte _

set_option maxRecDepth 100000 in
theorem Play.inter {F : Nat → Prop} {w W : World} {P : Nat} {o : Option Nat} {k : OpK} {s : St} {N : Nat} (p : Play F w W P o k s N) (vec : Nat) (hv : vec < 65536) (brk : Bool) (hN : N ≤ 80) {s' : St} (hs : s.inter vec brk = s') :
    Calls Tryz.prog 94 #[.pointer (some ⟨P, 0, none⟩), .int .u16 (vec : Int), .bool brk] W fun e w' => e = .returned (.tuple #[]) ∧ Play F w w' P o k s' (N + 5) := by
  obtain ⟨hA, hX, hY, hS, hP⟩ := p.pl.ok
  obtain ⟨s1, hs1⟩ : ∃ r_, s.pushPC = r_ := ⟨_, rfl⟩
  obtain ⟨d, hd⟩ : ∃ r_, s1.c.pk brk = r_ := ⟨_, rfl⟩
  obtain ⟨s2, hs2⟩ : ∃ r_, s1.push d = r_ := ⟨_, rfl⟩
  obtain ⟨z1, hz1⟩ : ∃ r_, (s2.readW vec).1 = r_ := ⟨_, rfl⟩
  obtain ⟨s3, hs3⟩ : ∃ r_, (⟨{ s2.c with I := true }, s2.b⟩ : St) = r_ := ⟨_, rfl⟩
  obtain ⟨s4, hs4⟩ : ∃ r_, (s3.readW vec).2 = r_ := ⟨_, rfl⟩
  have hd' : pkV s1.c.N s1.c.V brk s1.c.D s1.c.I s1.c.Z s1.c.C = (d : Int) := by rw [← hd]; have := (pkV_bd s1.c.N s1.c.V brk s1.c.D s1.c.I s1.c.Z s1.c.C).1; unfold CpuN.pk; omega
  have db : d < 256 := by have := (pkV_bd s1.c.N s1.c.V brk s1.c.D s1.c.I s1.c.Z s1.c.C).2; omega
  have hz3 : (s3.readW vec).1 = z1 := by rw [← hs3, ← hz1]; rfl
  have hs' : (⟨{ s4.c with PC := z1 }, s4.b⟩ : St) = s' := by rw [← hs, ← hs4, ← hs3, ← hz1, ← hs2, ← hd, ← hs1]; rfl
  have HD := Lib.hid hd'
  have HS := Lib.hid hs'
  have HZ := Lib.hid hz3
  clear hd' hs hs' hz3
  have Hs1 := Lib.hid hs1
  have Hd := Lib.hid hd
  have Hs2 := Lib.hid hs2
  have Hz1 := Lib.hid hz1
  have Hs3 := Lib.hid hs3
  have Hs4 := Lib.hid hs4
  clear hs1 hd hs2 hz1 hs3 hs4
  go_enter Tryz.func94, Tryz.ntmps94
  go_wp2_with fail
  refine (p.pushPC (by omega) Hs1.out).mono ?_
  rintro e w1 ⟨rfl, p2⟩
  obtain ⟨g0, g1, g2, g3, g4, g5, g6, g7, g8, g9, g10, g11, g12, g13, g15, gf⟩ := p2.cells
  go_wp2_with fail
  refine (implPackP_any _ _ _ _ _ _ _ _).mono ?_
  rintro e w3 ⟨rfl, d4⟩
  have p5 := p2.below d4
  clear g0 g1 g2 g3 g4 g5 g6 g7 g8 g9 g10 g11 g12 g13 g15 gf
  clear d4 p2
  rw [HD.out]
  go_wp2_with fail
  refine (p5.push _ d rfl db (by omega) Hs2.out).mono ?_
  rintro e w6 ⟨rfl, p7⟩
  clear p5
  have z1b : z1 < 65536 := by rw [← Hz1.out]; exact word_lt (p7.byte _) (p7.pl.bus.byteRd _ _)
  obtain ⟨g0, g1, g2, g3, g4, g5, g6, g7, g8, g9, g10, g11, g12, g13, g15, gf⟩ := p7.cells
  go_wp2_with fail
  have p8 := p7.flag 8 true { s2.c with I := true } rfl rfl rfl rfl rfl rfl
  clear g0 g1 g2 g3 g4 g5 g6 g7 g8 g9 g10 g11 g12 g13 g15 gf
  clear p7
  generalize w6.setCell ⟨P, 8, none⟩ (.bool true) = W9 at p8 ⊢
  rw [Hs3.out] at p8
  go_wp2_with fail
  refine (p8.readW _ vec rfl hv (by omega) HZ.out Hs4.out).mono ?_
  rintro e w11 ⟨rfl, p12⟩
  clear p8
  obtain ⟨g0, g1, g2, g3, g4, g5, g6, g7, g8, g9, g10, g11, g12, g13, g15, gf⟩ := p12.cells
  go_wp2
  (try simp only [Exit.inBlock, Exit.then])
  first | refine bodyPost_ret (results_none rfl _ _ _) rfl ?_ | refine bodyPost_end (results_none rfl _ _ _) rfl ?_
  refine ⟨rfl, ?_⟩
  exact p12.setPC _ z1 rfl z1b HS.out

set_option maxRecDepth 100000 in
theorem Play.zero {F : Nat → Prop} {w W : World} {P : Nat} {o : Option Nat} {k : OpK} {s : St} {N : Nat} (p : Play F w W P o k s N) (x : Int) (i : Nat) (hx : x = (i : Int)) (hi : i < 256) (hN : N ≤ 86) {z : Nat} {s' : St} (hz : (s.zero i).1 = z) (hs : (s.zero i).2 = s') :
    Calls Tryz.prog 166 #[.pointer (some ⟨P, 0, none⟩), .int .u8 x] W fun e w' => e = .returned (.int .u16 (z : Int)) ∧ Play F w w' P o k s' (N + 2) := by
  obtain ⟨hA, hX, hY, hS, hP⟩ := p.pl.ok
  subst hx
  obtain ⟨z1, hz1⟩ : ∃ r_, s.fetch.1 = r_ := ⟨_, rfl⟩
  obtain ⟨s1, hs1⟩ : ∃ r_, s.fetch.2 = r_ := ⟨_, rfl⟩
  have z1b : z1 < 256 := by rw [← hz1]; exact p.byte _
  have hz' : (z1 + i) % 256 = z := by rw [← hz1]; exact hz
  have hs' : (⟨s1.c, s1.b.rd z1⟩ : St) = s' := by rw [← hs1, ← hz1]; exact hs
  have e3 : IntKind.u16.wrap (IntKind.u8.wrap ((z1 : Int) + (i : Int))) = (z : Int) := by simp [IntKind.wrap, IntKind.bits, IntKind.signed]; omega
  have HS := Lib.hid hs'
  have HZ := Lib.hid hz'
  clear hs hs' hz hz'
  have Hz1 := Lib.hid hz1
  have Hs1 := Lib.hid hs1
  clear hz1 hs1
  obtain ⟨hm0, hm1⟩ := methR
  rcases o with _ | B
  · go_enter Tryz.func166, Tryz.ntmps166
    go_wp2_with fail
    refine (p.fetch (by omega) Hz1.out Hs1.out).mono ?_
    rintro e w1 ⟨rfl, p2⟩
    obtain ⟨g0, g1, g2, g3, g4, g5, g6, g7, g8, g9, g10, g11, g12, g13, g15, gf⟩ := p2.cells
    go_wp2_with fail
    refine (p2.read _ z1 (by first | omega | (simp only [IntKind.wrap, IntKind.bits, IntKind.signed]; simp; omega)) (by omega) (by omega) rfl HS.out).mono ?_
    rintro e w3 ⟨rfl, p4⟩
    clear g0 g1 g2 g3 g4 g5 g6 g7 g8 g9 g10 g11 g12 g13 g15 gf
    clear p2
    go_wp2
    go_ret
    refine ⟨?_, p4⟩
    first | rfl | exact congrArg (fun v => Ending.returned (Value.int .u16 v)) (by have := HZ.out; first | omega | (simp only [IntKind.wrap, IntKind.bits, IntKind.signed]; simp; omega))
  · go_enter Tryz.func166, Tryz.ntmps166
    go_wp2_with fail
    refine (p.fetch (by omega) Hz1.out Hs1.out).mono ?_
    rintro e w1 ⟨rfl, p2⟩
    obtain ⟨g0, g1, g2, g3, g4, g5, g6, g7, g8, g9, g10, g11, g12, g13, g15, gf⟩ := p2.cells
    go_wp2_with fail
    refine (p2.read _ z1 (by first | omega | (simp only [IntKind.wrap, IntKind.bits, IntKind.signed]; simp; omega)) (by omega) (by omega) rfl HS.out).mono ?_
    rintro e w3 ⟨rfl, p4⟩
    clear g0 g1 g2 g3 g4 g5 g6 g7 g8 g9 g10 g11 g12 g13 g15 gf
    clear p2
    go_wp2
    go_ret
    refine ⟨?_, p4⟩
    first | rfl | exact congrArg (fun v => Ending.returned (Value.int .u16 v)) (by have := HZ.out; first | omega | (simp only [IntKind.wrap, IntKind.bits, IntKind.signed]; simp; omega))

set_option maxRecDepth 100000 in
theorem Play.indexed_same {F : Nat → Prop} {w W : World} {P : Nat} {o : Option Nat} {k : OpK} {s : St} {N : Nat} (p : Play F w W P o k s N) (a i : Nat) (ha : a < 65536) (hi : i < 256) (hc : inPage a ((a + i) % 65536) = (a + i) % 65536 ∧ k.kd = 2) (hN : N ≤ 88) {z : Nat} {s' : St} (hz : (s.indexed a i k.kd).1 = z) (hs : (s.indexed a i k.kd).2 = s') :
    Calls Tryz.prog 167 #[.pointer (some ⟨P, 0, none⟩), .int .u16 (a : Int), .int .u8 (i : Int)] W fun e w' => e = .returned (.int .u16 (z : Int)) ∧ Play F w w' P o k s' (N + 1) := by
  obtain ⟨hA, hX, hY, hS, hP⟩ := p.pl.ok
  obtain ⟨e, he⟩ : ∃ r_, (a + i) % 65536 = r_ := ⟨_, rfl⟩
  obtain ⟨y, hy⟩ : ∃ r_, inPage a e = r_ := ⟨_, rfl⟩
  have eb : e < 65536 := by omega
  have yb : y < 65536 := by rw [← hy]; unfold inPage; omega
  rw [he, hy] at hc
  have hz' : e = z := by rw [← he]; exact hz
  subst hz'
  have e3 : IntKind.u16.wrap ((a : Int) + (i : Int)) = (e : Int) := by rw [w16]; omega
  have e4 : IntKind.u16.wrap (i : Int) = (i : Int) := by rw [w16]; omega
  obtain ⟨hc1, hc2⟩ := hc
  have hs' : s = s' := by rw [← hs]; simp [St.indexed, he, hy, hc1, hc2]
  have t1 : ((y : Int) != (e : Int)) = false := by rw [hc1]; simp
  have t2 : (k.kd != 2) = false := by rw [hc2]; rfl
  have HS := Lib.hid hs'
  clear hs hs' hz hc1 hc2
  have He := Lib.hid he
  have Hy := Lib.hid hy
  clear he hy
  go_enter Tryz.func167, Tryz.ntmps167
  obtain ⟨g0, g1, g2, g3, g4, g5, g6, g7, g8, g9, g10, g11, g12, g13, g15, gf⟩ := p.cells
  go_wp2_with fail
  refine (inPageOf_any a e ha eb Hy.out _).mono ?_
  rintro e w1 ⟨rfl, rfl⟩
  go_wp2
  go_ret
  refine ⟨rfl, ?_⟩
  exact (by rw [← HS.out]; exact p.mono (by omega))

set_option maxRecDepth 100000 in
theorem Play.indexed_cross {F : Nat → Prop} {w W : World} {P : Nat} {o : Option Nat} {k : OpK} {s : St} {N : Nat} (p : Play F w W P o k s N) (a i : Nat) (ha : a < 65536) (hi : i < 256) (hc : ¬ inPage a ((a + i) % 65536) = (a + i) % 65536) (hN : N ≤ 88) {z : Nat} {s' : St} (hz : (s.indexed a i k.kd).1 = z) (hs : (s.indexed a i k.kd).2 = s') :
    Calls Tryz.prog 167 #[.pointer (some ⟨P, 0, none⟩), .int .u16 (a : Int), .int .u8 (i : Int)] W fun e w' => e = .returned (.int .u16 (z : Int)) ∧ Play F w w' P o k s' (N + 1) := by
  obtain ⟨hA, hX, hY, hS, hP⟩ := p.pl.ok
  obtain ⟨e, he⟩ : ∃ r_, (a + i) % 65536 = r_ := ⟨_, rfl⟩
  obtain ⟨y, hy⟩ : ∃ r_, inPage a e = r_ := ⟨_, rfl⟩
  have eb : e < 65536 := by omega
  have yb : y < 65536 := by rw [← hy]; unfold inPage; omega
  rw [he, hy] at hc
  have hz' : e = z := by rw [← he]; exact hz
  subst hz'
  have e3 : IntKind.u16.wrap ((a : Int) + (i : Int)) = (e : Int) := by rw [w16]; omega
  have e4 : IntKind.u16.wrap (i : Int) = (i : Int) := by rw [w16]; omega
  have hs' : (⟨s.c, s.b.rd y⟩ : St) = s' := by rw [← hs]; simp [St.indexed, he, hy, hc]
  have t1 : ((y : Int) != (e : Int)) = true := by simpa using fun h => hc (by omega)
  have HS := Lib.hid hs'
  clear hs hs' hz hc
  have He := Lib.hid he
  have Hy := Lib.hid hy
  clear he hy
  obtain ⟨hm0, hm1⟩ := methR
  rcases o with _ | B
  · go_enter Tryz.func167, Tryz.ntmps167
    obtain ⟨g0, g1, g2, g3, g4, g5, g6, g7, g8, g9, g10, g11, g12, g13, g15, gf⟩ := p.cells
    go_wp2_with fail
    refine (inPageOf_any a e ha eb Hy.out _).mono ?_
    rintro e w1 ⟨rfl, rfl⟩
    go_wp2_with fail
    refine (p.read _ y rfl yb (by omega) rfl HS.out).mono ?_
    rintro e w2 ⟨rfl, p3⟩
    clear g0 g1 g2 g3 g4 g5 g6 g7 g8 g9 g10 g11 g12 g13 g15 gf
    go_wp2
    go_ret
    refine ⟨rfl, ?_⟩
    exact p3
  · go_enter Tryz.func167, Tryz.ntmps167
    obtain ⟨g0, g1, g2, g3, g4, g5, g6, g7, g8, g9, g10, g11, g12, g13, g15, gf⟩ := p.cells
    go_wp2_with fail
    refine (inPageOf_any a e ha eb Hy.out _).mono ?_
    rintro e w1 ⟨rfl, rfl⟩
    go_wp2_with fail
    refine (p.read _ y rfl yb (by omega) rfl HS.out).mono ?_
    rintro e w2 ⟨rfl, p3⟩
    clear g0 g1 g2 g3 g4 g5 g6 g7 g8 g9 g10 g11 g12 g13 g15 gf
    go_wp2
    go_ret
    refine ⟨rfl, ?_⟩
    exact p3

set_option maxRecDepth 100000 in
theorem Play.indexed_other {F : Nat → Prop} {w W : World} {P : Nat} {o : Option Nat} {k : OpK} {s : St} {N : Nat} (p : Play F w W P o k s N) (a i : Nat) (ha : a < 65536) (hi : i < 256) (hc : inPage a ((a + i) % 65536) = (a + i) % 65536 ∧ ¬ k.kd = 2) (hN : N ≤ 88) {z : Nat} {s' : St} (hz : (s.indexed a i k.kd).1 = z) (hs : (s.indexed a i k.kd).2 = s') :
    Calls Tryz.prog 167 #[.pointer (some ⟨P, 0, none⟩), .int .u16 (a : Int), .int .u8 (i : Int)] W fun e w' => e = .returned (.int .u16 (z : Int)) ∧ Play F w w' P o k s' (N + 1) := by
  obtain ⟨hA, hX, hY, hS, hP⟩ := p.pl.ok
  obtain ⟨e, he⟩ : ∃ r_, (a + i) % 65536 = r_ := ⟨_, rfl⟩
  obtain ⟨y, hy⟩ : ∃ r_, inPage a e = r_ := ⟨_, rfl⟩
  have eb : e < 65536 := by omega
  have yb : y < 65536 := by rw [← hy]; unfold inPage; omega
  rw [he, hy] at hc
  have hz' : e = z := by rw [← he]; exact hz
  subst hz'
  have e3 : IntKind.u16.wrap ((a : Int) + (i : Int)) = (e : Int) := by rw [w16]; omega
  have e4 : IntKind.u16.wrap (i : Int) = (i : Int) := by rw [w16]; omega
  obtain ⟨hc1, hc2⟩ := hc
  have hs' : (⟨s.c, s.b.rd y⟩ : St) = s' := by rw [← hs]; simp [St.indexed, he, hy, hc2]
  have t1 : ((y : Int) != (e : Int)) = false := by rw [hc1]; simp
  have t2 : (k.kd != 2) = true := by simpa using hc2
  have HS := Lib.hid hs'
  clear hs hs' hz hc1 hc2
  have He := Lib.hid he
  have Hy := Lib.hid hy
  clear he hy
  obtain ⟨hm0, hm1⟩ := methR
  rcases o with _ | B
  · go_enter Tryz.func167, Tryz.ntmps167
    obtain ⟨g0, g1, g2, g3, g4, g5, g6, g7, g8, g9, g10, g11, g12, g13, g15, gf⟩ := p.cells
    go_wp2_with fail
    refine (inPageOf_any a e ha eb Hy.out _).mono ?_
    rintro e w1 ⟨rfl, rfl⟩
    go_wp2_with fail
    refine (p.read _ y rfl yb (by omega) rfl HS.out).mono ?_
    rintro e w2 ⟨rfl, p3⟩
    clear g0 g1 g2 g3 g4 g5 g6 g7 g8 g9 g10 g11 g12 g13 g15 gf
    go_wp2
    go_ret
    refine ⟨rfl, ?_⟩
    exact p3
  · go_enter Tryz.func167, Tryz.ntmps167
    obtain ⟨g0, g1, g2, g3, g4, g5, g6, g7, g8, g9, g10, g11, g12, g13, g15, gf⟩ := p.cells
    go_wp2_with fail
    refine (inPageOf_any a e ha eb Hy.out _).mono ?_
    rintro e w1 ⟨rfl, rfl⟩
    go_wp2_with fail
    refine (p.read _ y rfl yb (by omega) rfl HS.out).mono ?_
    rintro e w2 ⟨rfl, p3⟩
    clear g0 g1 g2 g3 g4 g5 g6 g7 g8 g9 g10 g11 g12 g13 g15 gf
    go_wp2
    go_ret
    refine ⟨rfl, ?_⟩
    exact p3

theorem Play.indexed {F : Nat → Prop} {w W : World} {P : Nat} {o : Option Nat} {k : OpK} {s : St} {N : Nat} (p : Play F w W P o k s N) (a i : Nat) (ha : a < 65536) (hi : i < 256) (hN : N ≤ 88) {z : Nat} {s' : St} (hz : (s.indexed a i k.kd).1 = z) (hs : (s.indexed a i k.kd).2 = s') :
    Calls Tryz.prog 167 #[.pointer (some ⟨P, 0, none⟩), .int .u16 (a : Int), .int .u8 (i : Int)] W fun e w' => e = .returned (.int .u16 (z : Int)) ∧ Play F w w' P o k s' (N + 1) := by
  by_cases h1 : inPage a ((a + i) % 65536) = (a + i) % 65536
  · by_cases h2 : k.kd = 2
    · exact p.indexed_same a i ha hi ⟨h1, h2⟩ hN hz hs
    · exact p.indexed_other a i ha hi ⟨h1, h2⟩ hN hz hs
  · exact p.indexed_cross a i ha hi h1 hN hz hs

end Go.Proofs.YtblchdmemhhcbaaGreat
