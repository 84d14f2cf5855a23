/-
  Contracts over the program: what a player plays with an operand's byte (playRead, playWrite, playModify), and at a branch.
-/
import Derived.Test.YtblchdmemhhcbaaGreatQXStepPlayK
import Derived.Test.YtblchdmemhhcbaaGreatQXStepPlayJ
import Derived.Test.YtblchdmemhhcbaaGreatQXStepPlayNum3
import Derived.Test.YtblchdmemhhcbaaGreatQXStepPlayL2
namespace Go.Proofs.YtblchdmemhhcbaaGreat
set_option linter.unusedVariables false
set_option linter.unusedSimpArgs false
open Go.RowKit

theorem Play.place_lt {F : Nat → Prop} {w W : World} {P : Nat} {o : Option Nat} {k : OpK} {s : St} {N : Nat} (p : Play F w W P o k s N) (hm : k.md = 2 ∨ k.md = 3 ∨ k.md = 4 ∨ k.md = 5 ∨ k.md = 6 ∨ k.md = 7 ∨ k.md = 8 ∨ k.md = 10 ∨ k.md = 11) : (s.place k.md k.kd).1 < 65536 := by
  obtain ⟨hA, hX, hY, hS, hP⟩ := p.pl.ok
  have h1 := p.byte s.c.PC
  rcases hm with h | h | h | h | h | h | h | h | h <;> rw [h]
  · show s.c.PC < 65536; omega
  · show s.b.get s.c.PC < 65536; omega
  · show (_ + _) % 256 < 65536; omega
  · show (_ + _) % 256 < 65536; omega
  · exact word_lt (p.byte _) (p.byte_fetch _)
  · show (_ + _) % 65536 < 65536; omega
  · show (_ + _) % 65536 < 65536; omega
  · exact word_lt (p.byte _) (p.byte _)
  · show (_ + _) % 65536 < 65536; omega

theorem Play.store_lt {F : Nat → Prop} {w W : World} {P : Nat} {o : Option Nat} {k : OpK} {s : St} {N : Nat} (p : Play F w W P o k s N) {l : List UInt8} : storeL s.c l < 256 := by
  obtain ⟨hA, hX, hY, hS, hP⟩ := p.pl.ok
  unfold storeL
  repeat' split
  all_goals omega

set_option maxRecDepth 100000 in
theorem Play.playRead {F : Nat → Prop} {w W : World} {P : Nat} {o : Option Nat} {k : OpK} {s : St} {N : Nat} (p : Play F w W P o k s N) (i : Nat) (hi : i ∈ [1, 2, 3, 4, 6, 7, 8, 14, 24, 25, 26, 31]) (hk : k.nm = opTx i) (hpm : k.md = 2 ∨ k.md = 3 ∨ k.md = 4 ∨ k.md = 5 ∨ k.md = 6 ∨ k.md = 7 ∨ k.md = 8 ∨ k.md = 10 ∨ k.md = 11) (hN : N ≤ 80) {s' : St} (hs : s.readP (opTx i).toList k.md k.kd = s') :
    Calls Tryz.prog 109 #[.pointer (some ⟨P, 0, none⟩)] W fun e w' => e = .returned (.tuple #[]) ∧ Play F w w' P o k s' (N + 5) := by
  obtain ⟨hA, hX, hY, hS, hP⟩ := p.pl.ok
  obtain ⟨a, ha⟩ : ∃ r_, (s.place k.md k.kd).1 = r_ := ⟨_, rfl⟩
  obtain ⟨s1, hs1⟩ : ∃ r_, (s.place k.md k.kd).2 = r_ := ⟨_, rfl⟩
  have ab : a < 65536 := by rw [← ha]; exact p.place_lt hpm
  obtain ⟨v, hv⟩ : ∃ r_, s1.b.get a = r_ := ⟨_, rfl⟩
  obtain ⟨b1, hb1⟩ : ∃ r_, s1.b.rd a = r_ := ⟨_, rfl⟩
  have hs' : (⟨useL s1.c (opTx i).toList v, b1⟩ : St) = s' := by rw [← hs, ← hb1, ← hv, ← hs1, ← ha]; rfl
  have Hhs' := Lib.hid hs'
  clear hs hs'
  have Ha := Lib.hid ha
  have Hs1 := Lib.hid hs1
  have Hv := Lib.hid hv
  have Hb1 := Lib.hid hb1
  clear ha hs1 hv hb1
  obtain ⟨hm0, hm1⟩ := methR
  rcases o with _ | B
  · go_enter Tryz.func109, Tryz.ntmps109
    obtain ⟨g0, g1, g2, g3, g4, g5, g6, g7, g8, g9, g10, g11, g12, g13, g15, gf⟩ := p.cells
    go_wp2_with fail
    have p1 := p.drew
    clear g0 g1 g2 g3 g4 g5 g6 g7 g8 g9 g10 g11 g12 g13 g15 gf
    have g2 : W.drew.cell? ⟨P, 11, none⟩ = some (busV none) := p1.cells.2.2.2.2.2.2.2.2.2.2.2.1
    go_region_held3 (fun w' => w'.cell? ⟨P, 11, none⟩ = some (busV none)) (((try dsimp only); (first | (with_reducible exact g2) | (with_reducible exact hh5) | (with_reducible exact hh8) | (with_reducible exact hh11)))) (first | (go_at_call 142; refine (p1.place hpm (by omega) Ha.out Hs1.out).mono ?_; rintro e w3 ⟨rfl, p4⟩; (have hh5 : w3.cell? ⟨P, 11, none⟩ = some (busV none) := p4.cells.2.2.2.2.2.2.2.2.2.2.2.1)) | (refine (p4.read _ a rfl ab (by omega) Hv.out (s' := ⟨s1.c, b1⟩) (by rw [← Hb1.out])).mono ?_; rintro e w6 ⟨rfl, p7⟩; (have hh8 : w6.cell? ⟨P, 11, none⟩ = some (busV none) := p7.cells.2.2.2.2.2.2.2.2.2.2.2.1)) | (go_at_call 141; refine (p7.use_any i hi hk v (by rw [← Hv.out]; exact p4.byte _) (by omega) Hhs'.out).mono ?_; rintro e w9 ⟨rfl, p10⟩; (have hh11 : w9.cell? ⟨P, 11, none⟩ = some (busV none) := p10.cells.2.2.2.2.2.2.2.2.2.2.2.1)))
    clear g2 hh5 hh8 hh11
    go_wp2
    (try simp only [Exit.inBlock, Exit.then])
    first | refine bodyPost_ret (results_none rfl _ _ _) rfl ?_ | refine bodyPost_end (results_none rfl _ _ _) rfl ?_
    refine ⟨rfl, ?_⟩
    exact p10
  · go_enter Tryz.func109, Tryz.ntmps109
    obtain ⟨g0, g1, g2, g3, g4, g5, g6, g7, g8, g9, g10, g11, g12, g13, g15, gf⟩ := p.cells
    go_wp2_with fail
    have p1 := p.drew
    clear g0 g1 g2 g3 g4 g5 g6 g7 g8 g9 g10 g11 g12 g13 g15 gf
    have g2 : W.drew.cell? ⟨P, 11, none⟩ = some (busV (some B)) := p1.cells.2.2.2.2.2.2.2.2.2.2.2.1
    go_region_held3 (fun w' => w'.cell? ⟨P, 11, none⟩ = some (busV (some B))) (((try dsimp only); (first | (with_reducible exact g2) | (with_reducible exact hh5) | (with_reducible exact hh8) | (with_reducible exact hh11)))) (first | (go_at_call 142; refine (p1.place hpm (by omega) Ha.out Hs1.out).mono ?_; rintro e w3 ⟨rfl, p4⟩; (have hh5 : w3.cell? ⟨P, 11, none⟩ = some (busV (some B)) := p4.cells.2.2.2.2.2.2.2.2.2.2.2.1)) | (refine (p4.read _ a rfl ab (by omega) Hv.out (s' := ⟨s1.c, b1⟩) (by rw [← Hb1.out])).mono ?_; rintro e w6 ⟨rfl, p7⟩; (have hh8 : w6.cell? ⟨P, 11, none⟩ = some (busV (some B)) := p7.cells.2.2.2.2.2.2.2.2.2.2.2.1)) | (go_at_call 141; refine (p7.use_any i hi hk v (by rw [← Hv.out]; exact p4.byte _) (by omega) Hhs'.out).mono ?_; rintro e w9 ⟨rfl, p10⟩; (have hh11 : w9.cell? ⟨P, 11, none⟩ = some (busV (some B)) := p10.cells.2.2.2.2.2.2.2.2.2.2.2.1)))
    clear g2 hh5 hh8 hh11
    go_wp2
    (try simp only [Exit.inBlock, Exit.then])
    first | refine bodyPost_ret (results_none rfl _ _ _) rfl ?_ | refine bodyPost_end (results_none rfl _ _ _) rfl ?_
    refine ⟨rfl, ?_⟩
    exact p10

set_option maxRecDepth 100000 in
theorem Play.playWrite {F : Nat → Prop} {w W : World} {P : Nat} {o : Option Nat} {k : OpK} {s : St} {N : Nat} (p : Play F w W P o k s N) (i : Nat) (hi : i ∈ [5, 13, 23]) (hk : k.nm = opTx i) (hpm : k.md = 2 ∨ k.md = 3 ∨ k.md = 4 ∨ k.md = 5 ∨ k.md = 6 ∨ k.md = 7 ∨ k.md = 8 ∨ k.md = 10 ∨ k.md = 11) (hN : N ≤ 80) {s' : St} (hs : s.writeP (opTx i).toList k.md k.kd = s') :
    Calls Tryz.prog 110 #[.pointer (some ⟨P, 0, none⟩)] W fun e w' => e = .returned (.tuple #[]) ∧ Play F w w' P o k s' (N + 5) := by
  obtain ⟨hA, hX, hY, hS, hP⟩ := p.pl.ok
  obtain ⟨a, ha⟩ : ∃ r_, (s.place k.md k.kd).1 = r_ := ⟨_, rfl⟩
  obtain ⟨s1, hs1⟩ : ∃ r_, (s.place k.md k.kd).2 = r_ := ⟨_, rfl⟩
  have ab : a < 65536 := by rw [← ha]; exact p.place_lt hpm
  obtain ⟨v, hv⟩ : ∃ r_, storeL s1.c (opTx i).toList = r_ := ⟨_, rfl⟩
  obtain ⟨b1, hb1⟩ : ∃ r_, s1.b.put a v = r_ := ⟨_, rfl⟩
  have hs' : (⟨s1.c, b1⟩ : St) = s' := by rw [← hs, ← hb1, ← hv, ← hs1, ← ha]; rfl
  have Hhs' := Lib.hid hs'
  clear hs hs'
  have Ha := Lib.hid ha
  have Hs1 := Lib.hid hs1
  have Hv := Lib.hid hv
  have Hb1 := Lib.hid hb1
  clear ha hs1 hv hb1
  obtain ⟨hm0, hm1⟩ := methW
  rcases o with _ | B
  · go_enter Tryz.func110, Tryz.ntmps110
    obtain ⟨g0, g1, g2, g3, g4, g5, g6, g7, g8, g9, g10, g11, g12, g13, g15, gf⟩ := p.cells
    go_wp2_with fail
    have p1 := p.drew
    clear g0 g1 g2 g3 g4 g5 g6 g7 g8 g9 g10 g11 g12 g13 g15 gf
    have g2 : W.drew.cell? ⟨P, 11, none⟩ = some (busV none) := p1.cells.2.2.2.2.2.2.2.2.2.2.2.1
    go_region_held3 (fun w' => w'.cell? ⟨P, 11, none⟩ = some (busV none)) (((try dsimp only); (first | (with_reducible exact g2) | (with_reducible exact hh5) | (with_reducible exact hh9)))) (first | (go_at_call 142; refine (p1.place hpm (by omega) Ha.out Hs1.out).mono ?_; rintro e w3 ⟨rfl, p4⟩; (have hh5 : w3.cell? ⟨P, 11, none⟩ = some (busV none) := p4.cells.2.2.2.2.2.2.2.2.2.2.2.1)) | (go_at_call 143; refine (p4.stored_any i hi hk).mono ?_; rintro e w6 ⟨rfl, rfl⟩) | (refine (p4.write _ _ a v rfl (by rw [← Hv.out]) ab (by rw [← Hv.out]; exact p4.store_lt) (by omega) (s' := ⟨s1.c, b1⟩) (by rw [← Hb1.out])).mono ?_; rintro e w7 ⟨rfl, p8⟩; (have hh9 : w7.cell? ⟨P, 11, none⟩ = some (busV none) := p8.cells.2.2.2.2.2.2.2.2.2.2.2.1)))
    clear g2 hh5 hh9
    go_wp2
    (try simp only [Exit.inBlock, Exit.then])
    first | refine bodyPost_ret (results_none rfl _ _ _) rfl ?_ | refine bodyPost_end (results_none rfl _ _ _) rfl ?_
    refine ⟨rfl, ?_⟩
    exact (by rw [← Hhs'.out]; exact p8)
  · go_enter Tryz.func110, Tryz.ntmps110
    obtain ⟨g0, g1, g2, g3, g4, g5, g6, g7, g8, g9, g10, g11, g12, g13, g15, gf⟩ := p.cells
    go_wp2_with fail
    have p1 := p.drew
    clear g0 g1 g2 g3 g4 g5 g6 g7 g8 g9 g10 g11 g12 g13 g15 gf
    have g2 : W.drew.cell? ⟨P, 11, none⟩ = some (busV (some B)) := p1.cells.2.2.2.2.2.2.2.2.2.2.2.1
    go_region_held3 (fun w' => w'.cell? ⟨P, 11, none⟩ = some (busV (some B))) (((try dsimp only); (first | (with_reducible exact g2) | (with_reducible exact hh5) | (with_reducible exact hh9)))) (first | (go_at_call 142; refine (p1.place hpm (by omega) Ha.out Hs1.out).mono ?_; rintro e w3 ⟨rfl, p4⟩; (have hh5 : w3.cell? ⟨P, 11, none⟩ = some (busV (some B)) := p4.cells.2.2.2.2.2.2.2.2.2.2.2.1)) | (go_at_call 143; refine (p4.stored_any i hi hk).mono ?_; rintro e w6 ⟨rfl, rfl⟩) | (refine (p4.write _ _ a v rfl (by rw [← Hv.out]) ab (by rw [← Hv.out]; exact p4.store_lt) (by omega) (s' := ⟨s1.c, b1⟩) (by rw [← Hb1.out])).mono ?_; rintro e w7 ⟨rfl, p8⟩; (have hh9 : w7.cell? ⟨P, 11, none⟩ = some (busV (some B)) := p8.cells.2.2.2.2.2.2.2.2.2.2.2.1)))
    clear g2 hh5 hh9
    go_wp2
    (try simp only [Exit.inBlock, Exit.then])
    first | refine bodyPost_ret (results_none rfl _ _ _) rfl ?_ | refine bodyPost_end (results_none rfl _ _ _) rfl ?_
    refine ⟨rfl, ?_⟩
    exact (by rw [← Hhs'.out]; exact p8)

set_option maxRecDepth 100000 in
set_option maxHeartbeats 2000000 in
theorem Play.playModify {F : Nat → Prop} {w W : World} {P : Nat} {o : Option Nat} {k : OpK} {s : St} {N : Nat} (p : Play F w W P o k s N) (i : Nat) (hi : i ∈ [9, 10, 11, 12, 15, 16]) (hk : k.nm = opTx i) (hpm : k.md = 2 ∨ k.md = 3 ∨ k.md = 4 ∨ k.md = 5 ∨ k.md = 6 ∨ k.md = 7 ∨ k.md = 8 ∨ k.md = 10 ∨ k.md = 11) (hN : N ≤ 76) {s' : St} (hs : s.modP (opTx i).toList k.md k.kd = s') :
    Calls Tryz.prog 111 #[.pointer (some ⟨P, 0, none⟩)] W fun e w' => e = .returned (.tuple #[]) ∧ Play F w w' P o k s' (N + 7) := by
  obtain ⟨hA, hX, hY, hS, hP⟩ := p.pl.ok
  obtain ⟨hn0, hn1⟩ := methW
  obtain ⟨a, ha⟩ : ∃ r_, (s.place k.md k.kd).1 = r_ := ⟨_, rfl⟩
  obtain ⟨s1, hs1⟩ : ∃ r_, (s.place k.md k.kd).2 = r_ := ⟨_, rfl⟩
  have ab : a < 65536 := by rw [← ha]; exact p.place_lt hpm
  obtain ⟨v, hv⟩ : ∃ r_, s1.b.get a = r_ := ⟨_, rfl⟩
  obtain ⟨b1, hb1⟩ : ∃ r_, s1.b.rd a = r_ := ⟨_, rfl⟩
  obtain ⟨b2, hb2⟩ : ∃ r_, b1.put a v = r_ := ⟨_, rfl⟩
  obtain ⟨y, hy⟩ : ∃ r_, chgB (opTx i).toList v s1.c.C = r_ := ⟨_, rfl⟩
  obtain ⟨b3, hb3⟩ : ∃ r_, b2.put a y = r_ := ⟨_, rfl⟩
  have hs' : (⟨s1.c.chg (opTx i).toList v, b3⟩ : St) = s' := by rw [← hs, ← hb3, ← hy, ← hb2, ← hb1, ← hv, ← hs1, ← ha]; rfl
  have Hhs' := Lib.hid hs'
  clear hs hs'
  have Ha := Lib.hid ha
  have Hs1 := Lib.hid hs1
  have Hv := Lib.hid hv
  have Hb1 := Lib.hid hb1
  have Hb2 := Lib.hid hb2
  have Hy := Lib.hid hy
  have Hb3 := Lib.hid hb3
  clear ha hs1 hv hb1 hb2 hy hb3
  obtain ⟨hm0, hm1⟩ := methR
  rcases o with _ | B
  · go_enter Tryz.func111, Tryz.ntmps111
    obtain ⟨g0, g1, g2, g3, g4, g5, g6, g7, g8, g9, g10, g11, g12, g13, g15, gf⟩ := p.cells
    go_wp2_with fail
    refine (p.place hpm (by omega) Ha.out Hs1.out).mono ?_
    rintro e w1 ⟨rfl, p2⟩
    clear g0 g1 g2 g3 g4 g5 g6 g7 g8 g9 g10 g11 g12 g13 g15 gf
    have vb : v < 256 := by rw [← Hv.out]; exact p2.byte _
    have yb : y < 256 := by rw [← Hy.out]; exact chgB_256 vb
    obtain ⟨g0, g1, g2, g3, g4, g5, g6, g7, g8, g9, g10, g11, g12, g13, g15, gf⟩ := p2.cells
    go_wp2_with fail
    refine (p2.read _ a rfl ab (by omega) Hv.out (s' := ⟨s1.c, b1⟩) (by rw [← Hb1.out])).mono ?_
    rintro e w3 ⟨rfl, p4⟩
    clear g0 g1 g2 g3 g4 g5 g6 g7 g8 g9 g10 g11 g12 g13 g15 gf
    clear p2
    obtain ⟨g0, g1, g2, g3, g4, g5, g6, g7, g8, g9, g10, g11, g12, g13, g15, gf⟩ := p4.cells
    go_wp2_with fail
    refine (p4.write _ _ a v rfl rfl ab vb (by omega) (s' := ⟨s1.c, b2⟩) (by rw [← Hb2.out])).mono ?_
    rintro e w5 ⟨rfl, p6⟩
    clear g0 g1 g2 g3 g4 g5 g6 g7 g8 g9 g10 g11 g12 g13 g15 gf
    clear p4
    obtain ⟨g0, g1, g2, g3, g4, g5, g6, g7, g8, g9, g10, g11, g12, g13, g15, gf⟩ := p6.cells
    go_wp2_with fail
    have p7 := p6.drew
    clear g0 g1 g2 g3 g4 g5 g6 g7 g8 g9 g10 g11 g12 g13 g15 gf
    have g8 : w5.drew.cell? ⟨P, 11, none⟩ = some (busV none) := p7.cells.2.2.2.2.2.2.2.2.2.2.2.1
    go_region_held3 (fun w' => w'.cell? ⟨P, 11, none⟩ = some (busV none)) (((try dsimp only); (first | (with_reducible exact g8) | (with_reducible exact hh11) | (with_reducible exact hh14)))) (first | (go_at_call 137; refine (p7.remade_any i hi hk v vb (by omega) Hy.out (s' := ⟨s1.c.chg (opTx i).toList v, b2⟩) rfl).mono ?_; rintro e w9 ⟨rfl, p10⟩; (have hh11 : w9.cell? ⟨P, 11, none⟩ = some (busV none) := p10.cells.2.2.2.2.2.2.2.2.2.2.2.1)) | (refine (p10.write _ _ a y rfl rfl ab yb (by omega) (s' := ⟨s1.c.chg (opTx i).toList v, b3⟩) (by rw [← Hb3.out])).mono ?_; rintro e w12 ⟨rfl, p13⟩; (have hh14 : w12.cell? ⟨P, 11, none⟩ = some (busV none) := p13.cells.2.2.2.2.2.2.2.2.2.2.2.1)))
    clear g8 hh11 hh14
    go_wp2
    (try simp only [Exit.inBlock, Exit.then])
    first | refine bodyPost_ret (results_none rfl _ _ _) rfl ?_ | refine bodyPost_end (results_none rfl _ _ _) rfl ?_
    refine ⟨rfl, ?_⟩
    exact (by rw [← Hhs'.out]; exact p13)
  · go_enter Tryz.func111, Tryz.ntmps111
    obtain ⟨g0, g1, g2, g3, g4, g5, g6, g7, g8, g9, g10, g11, g12, g13, g15, gf⟩ := p.cells
    go_wp2_with fail
    refine (p.place hpm (by omega) Ha.out Hs1.out).mono ?_
    rintro e w1 ⟨rfl, p2⟩
    clear g0 g1 g2 g3 g4 g5 g6 g7 g8 g9 g10 g11 g12 g13 g15 gf
    have vb : v < 256 := by rw [← Hv.out]; exact p2.byte _
    have yb : y < 256 := by rw [← Hy.out]; exact chgB_256 vb
    obtain ⟨g0, g1, g2, g3, g4, g5, g6, g7, g8, g9, g10, g11, g12, g13, g15, gf⟩ := p2.cells
    go_wp2_with fail
    refine (p2.read _ a rfl ab (by omega) Hv.out (s' := ⟨s1.c, b1⟩) (by rw [← Hb1.out])).mono ?_
    rintro e w3 ⟨rfl, p4⟩
    clear g0 g1 g2 g3 g4 g5 g6 g7 g8 g9 g10 g11 g12 g13 g15 gf
    clear p2
    obtain ⟨g0, g1, g2, g3, g4, g5, g6, g7, g8, g9, g10, g11, g12, g13, g15, gf⟩ := p4.cells
    go_wp2_with fail
    refine (p4.write _ _ a v rfl rfl ab vb (by omega) (s' := ⟨s1.c, b2⟩) (by rw [← Hb2.out])).mono ?_
    rintro e w5 ⟨rfl, p6⟩
    clear g0 g1 g2 g3 g4 g5 g6 g7 g8 g9 g10 g11 g12 g13 g15 gf
    clear p4
    obtain ⟨g0, g1, g2, g3, g4, g5, g6, g7, g8, g9, g10, g11, g12, g13, g15, gf⟩ := p6.cells
    go_wp2_with fail
    have p7 := p6.drew
    clear g0 g1 g2 g3 g4 g5 g6 g7 g8 g9 g10 g11 g12 g13 g15 gf
    have g8 : w5.drew.cell? ⟨P, 11, none⟩ = some (busV (some B)) := p7.cells.2.2.2.2.2.2.2.2.2.2.2.1
    go_region_held3 (fun w' => w'.cell? ⟨P, 11, none⟩ = some (busV (some B))) (((try dsimp only); (first | (with_reducible exact g8) | (with_reducible exact hh11) | (with_reducible exact hh14)))) (first | (go_at_call 137; refine (p7.remade_any i hi hk v vb (by omega) Hy.out (s' := ⟨s1.c.chg (opTx i).toList v, b2⟩) rfl).mono ?_; rintro e w9 ⟨rfl, p10⟩; (have hh11 : w9.cell? ⟨P, 11, none⟩ = some (busV (some B)) := p10.cells.2.2.2.2.2.2.2.2.2.2.2.1)) | (refine (p10.write _ _ a y rfl rfl ab yb (by omega) (s' := ⟨s1.c.chg (opTx i).toList v, b3⟩) (by rw [← Hb3.out])).mono ?_; rintro e w12 ⟨rfl, p13⟩; (have hh14 : w12.cell? ⟨P, 11, none⟩ = some (busV (some B)) := p13.cells.2.2.2.2.2.2.2.2.2.2.2.1)))
    clear g8 hh11 hh14
    go_wp2
    (try simp only [Exit.inBlock, Exit.then])
    first | refine bodyPost_ret (results_none rfl _ _ _) rfl ?_ | refine bodyPost_end (results_none rfl _ _ _) rfl ?_
    refine ⟨rfl, ?_⟩
    exact (by rw [← Hhs'.out]; exact p13)

end Go.Proofs.YtblchdmemhhcbaaGreat
