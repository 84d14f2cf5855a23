/-
  Contracts over the program: an interrupt; places with a register.
-/
import Derived.Test.YtblchdmemhhcbaaQSPlayD
import Derived.Test.YtblchdmemhhcbaaQSPlayE
namespace Go.Proofs.Ytblchdmemhhcbaa
set_option linter.unusedVariables false
set_option linter.unusedSimpArgs false
open Go.RowKit

theorem word_lt {a b : Nat} (ha : a < 256) (hb : b < 256) : word a b < 65536 := by unfold word; omega

theorem BusO.byteRd {w : World} {F : Nat → Prop} {o : Option Nat} {b : BusN} (h : BusO w F o b) (a c : Nat) : (b.rd a).get c < 256 := h.byte c

set_option maxRecDepth 100000 in
theorem Play.inter {F : Nat → Prop} {w W : World} {P : Nat} {o : Option Nat} {k : OpK} {s : St} {N : Nat} (p : Play F w W P o k s N) (vec : Nat) (hv : vec < 65536) (brk : Bool) (hN : N ≤ 80) {s' : St} (hs : s.inter vec brk = s') :
    Calls Try.prog 44 #[.pointer (some ⟨P, 0, none⟩), .int .u16 (vec : Int), .bool brk] W fun e w' => e = .returned (.tuple #[]) ∧ Play F w w' P o k s' (N + 5) := by
  obtain ⟨hA, hX, hY, hS, hP⟩ := p.pl.ok
  obtain ⟨s1, hs1⟩ : ∃ r_, s.pushPC = r_ := ⟨_, rfl⟩
  obtain ⟨d, hd⟩ : ∃ r_, s1.c.pk brk = r_ := ⟨_, rfl⟩
  obtain ⟨s2, hs2⟩ : ∃ r_, s1.push d = r_ := ⟨_, rfl⟩
  obtain ⟨z1, hz1⟩ : ∃ r_, (s2.readW vec).1 = r_ := ⟨_, rfl⟩
  obtain ⟨s3, hs3⟩ : ∃ r_, (⟨{ s2.c with I := true }, s2.b⟩ : St) = r_ := ⟨_, rfl⟩
  obtain ⟨s4, hs4⟩ : ∃ r_, (s3.readW vec).2 = r_ := ⟨_, rfl⟩
  have hd' : pkV s1.c.N s1.c.V brk s1.c.D s1.c.I s1.c.Z s1.c.C = (d : Int) := by rw [← hd]; have := (pkV_bd s1.c.N s1.c.V brk s1.c.D s1.c.I s1.c.Z s1.c.C).1; unfold CpuN.pk; omega
  have db : d < 256 := by have := (pkV_bd s1.c.N s1.c.V brk s1.c.D s1.c.I s1.c.Z s1.c.C).2; omega
  have hz3 : (s3.readW vec).1 = z1 := by rw [← hs3, ← hz1]; rfl
  have hs' : (⟨{ s4.c with PC := z1 }, s4.b⟩ : St) = s' := by rw [← hs, ← hs4, ← hs3, ← hz1, ← hs2, ← hd, ← hs1]; rfl
  have HD := Lib.hid hd'
  have HS := Lib.hid hs'
  have HZ := Lib.hid hz3
  clear hd' hs hs' hz3
  have Hs1 := Lib.hid hs1
  have Hd := Lib.hid hd
  have Hs2 := Lib.hid hs2
  have Hz1 := Lib.hid hz1
  have Hs3 := Lib.hid hs3
  have Hs4 := Lib.hid hs4
  clear hs1 hd hs2 hz1 hs3 hs4
  go_enter Try.func44, Try.ntmps44
  go_wp2_with fail
  refine (p.pushPC (by omega) Hs1.out).mono ?_
  rintro e w1 ⟨rfl, p2⟩
  obtain ⟨g0, g1, g2, g3, g4, g5, g6, g7, g8, g9, g10, g11, g12, g13, g15, gf⟩ := p2.cells
  go_wp2_with fail
  refine (implPackP_any _ _ _ _ _ _ _ _).mono ?_
  rintro e w3 ⟨rfl, d4⟩
  have p5 := p2.below d4
  clear g0 g1 g2 g3 g4 g5 g6 g7 g8 g9 g10 g11 g12 g13 g15 gf
  clear d4 p2
  rw [HD.out]
  go_wp2_with fail
  refine (p5.push _ d rfl db (by omega) Hs2.out).mono ?_
  rintro e w6 ⟨rfl, p7⟩
  clear p5
  have z1b : z1 < 65536 := by rw [← Hz1.out]; exact word_lt (p7.byte _) (p7.pl.bus.byteRd _ _)
  obtain ⟨g0, g1, g2, g3, g4, g5, g6, g7, g8, g9, g10, g11, g12, g13, g15, gf⟩ := p7.cells
  go_wp2_with fail
  have p8 := p7.flag 8 true { s2.c with I := true } rfl rfl rfl rfl rfl rfl
  clear g0 g1 g2 g3 g4 g5 g6 g7 g8 g9 g10 g11 g12 g13 g15 gf
  clear p7
  generalize w6.setCell ⟨P, 8, none⟩ (.bool true) = W9 at p8 ⊢
  rw [Hs3.out] at p8
  go_wp2_with fail
  refine (p8.readW _ vec rfl hv (by omega) HZ.out Hs4.out).mono ?_
  rintro e w11 ⟨rfl, p12⟩
  clear p8
  obtain ⟨g0, g1, g2, g3, g4, g5, g6, g7, g8, g9, g10, g11, g12, g13, g15, gf⟩ := p12.cells
  go_wp2
  (try simp only [Exit.inBlock, Exit.then])
  first | refine bodyPost_ret (results_none rfl _ _ _) rfl ?_ | refine bodyPost_end (results_none rfl _ _ _) rfl ?_
  refine ⟨rfl, ?_⟩
  exact p12.setPC _ z1 rfl z1b HS.out

end Go.Proofs.Ytblchdmemhhcbaa
