/-
  Contracts over the program: impl's operations by their rules: modes, sizes and kinds.
-/
import Derived.Test.YtblchdmemhhcbaaGreatQSPlayK
import Derived.Test.YtblchdmemhhcbaaGreatQSPlayI
import Derived.Test.YtblchdmemhhcbaaGreatQSPlayNum3
import Derived.Test.YtblchdmemhhcbaaGreatQSPlayS
import Derived.Test.YtblchdmemhhcbaaGreatQSPlayF
import Derived.Test.YtblchdmemhhcbaaGreatQSPlayM
import Derived.Test.YtblchdmemhhcbaaGreatQSPlayO
import Derived.Test.YtblchdmemhhcbaaGreatQSStepK
import Derived.Test.YtblchdmemhhcbaaGreatQSOpC
namespace Go.Proofs.YtblchdmemhhcbaaGreat
set_option linter.unusedVariables false
set_option linter.unusedSimpArgs false
open Go.RowKit

theorem off_wrap {q z t : Nat} (hz : z < 256) (ht : (q + offN z) % 65536 = t) : IntKind.u16.wrap ((q : Int) + IntKind.u16.wrap (IntKind.i8.wrap (z : Int))) = (t : Int) := by
  have e1 : IntKind.i8.wrap (z : Int) = if 128 ≤ z then (z : Int) - 256 else (z : Int) := by
    simp only [IntKind.wrap, IntKind.bits, IntKind.signed]
    simp
    split <;> split <;> omega
  rw [e1, w16, w16, ← ht]
  unfold offN
  split <;> omega

set_option maxRecDepth 100000 in
theorem Play.branch_no {F : Nat → Prop} {w W : World} {P : Nat} {o : Option Nat} {k : OpK} {s : St} {N : Nat} (p : Play F w W P o k s N) (i : Nat) (hi : i ∈ [41, 42, 43, 44, 45, 46, 47, 48]) (hk : k.nm = opTx i) (hh : holdsL s.fetch.2.c (opTx i).toList = false) (hN : N ≤ 88) {s' : St} (hs : s.branchP (opTx i).toList = s') :
    Calls Tryz.prog 112 #[.pointer (some ⟨P, 0, none⟩)] W fun e w' => e = .returned (.tuple #[]) ∧ Play F w w' P o k s' (N + 1) := by
  obtain ⟨hA, hX, hY, hS, hP⟩ := p.pl.ok
  obtain ⟨z1, hz1⟩ : ∃ r_, s.fetch.1 = r_ := ⟨_, rfl⟩
  obtain ⟨s1, hs1⟩ : ∃ r_, s.fetch.2 = r_ := ⟨_, rfl⟩
  rw [hs1] at hh
  have z1b : z1 < 256 := by rw [← hz1]; exact p.byte _
  have hs' : s1 = s' := by rw [← hs]; unfold St.branchP; rw [hs1, hh]; rfl
  have Hhs' := Lib.hid hs'
  clear hs hs'
  have HH := Lib.hid hh
  clear hh
  have Hz1 := Lib.hid hz1
  have Hs1 := Lib.hid hs1
  clear hz1 hs1
  go_enter Tryz.func112, Tryz.ntmps112
  go_wp2_with fail
  refine (p.fetch (by omega) Hz1.out Hs1.out).mono ?_
  rintro e w1 ⟨rfl, p2⟩
  go_wp2_with fail
  refine (p2.branches_any i hi hk).mono ?_
  rintro e w3 ⟨rfl, rfl⟩
  rw [HH.out]
  go_wp2
  (try simp only [Exit.inBlock, Exit.then])
  first | refine bodyPost_ret (results_none rfl _ _ _) rfl ?_ | refine bodyPost_end (results_none rfl _ _ _) rfl ?_
  refine ⟨rfl, ?_⟩
  exact (by rw [← Hhs'.out]; exact p2)

set_option maxRecDepth 100000 in
theorem Play.branch_same {F : Nat → Prop} {w W : World} {P : Nat} {o : Option Nat} {k : OpK} {s : St} {N : Nat} (p : Play F w W P o k s N) (i : Nat) (hi : i ∈ [41, 42, 43, 44, 45, 46, 47, 48]) (hk : k.nm = opTx i) (hh : holdsL s.fetch.2.c (opTx i).toList = true) (hc : inPage s.fetch.2.c.PC ((s.fetch.2.c.PC + offN s.fetch.1) % 65536) = (s.fetch.2.c.PC + offN s.fetch.1) % 65536) (hN : N ≤ 86) {s' : St} (hs : s.branchP (opTx i).toList = s') :
    Calls Tryz.prog 112 #[.pointer (some ⟨P, 0, none⟩)] W fun e w' => e = .returned (.tuple #[]) ∧ Play F w w' P o k s' (N + 2) := by
  obtain ⟨hA, hX, hY, hS, hP⟩ := p.pl.ok
  obtain ⟨z1, hz1⟩ : ∃ r_, s.fetch.1 = r_ := ⟨_, rfl⟩
  obtain ⟨s1, hs1⟩ : ∃ r_, s.fetch.2 = r_ := ⟨_, rfl⟩
  rw [hs1] at hh
  have z1b : z1 < 256 := by rw [← hz1]; exact p.byte _
  obtain ⟨q, hq⟩ : ∃ r_, s1.c.PC = r_ := ⟨_, rfl⟩
  obtain ⟨t, ht⟩ : ∃ r_, (q + offN z1) % 65536 = r_ := ⟨_, rfl⟩
  obtain ⟨y, hy⟩ : ∃ r_, inPage q t = r_ := ⟨_, rfl⟩
  obtain ⟨b2, hb2⟩ : ∃ r_, s1.b.rd q = r_ := ⟨_, rfl⟩
  rw [hs1, hz1, hq, ht, hy] at hc
  have qb : q < 65536 := by rw [← hq, ← hs1]; show (_ + 1) % 65536 < 65536; omega
  have tb : t < 65536 := by omega
  have yb : y < 65536 := by rw [← hy]; unfold inPage; omega
  have qb0 : s.c.PC < 65536 := hP
  have e5 : IntKind.u16.wrap ((q : Int) + IntKind.u16.wrap (IntKind.i8.wrap (z1 : Int))) = (t : Int) := off_wrap z1b ht
  have hs' : (⟨{ s1.c with PC := t }, b2⟩ : St) = s' := by rw [← hs]; unfold St.branchP; rw [hs1, hz1, hh, if_pos rfl, hq, ht, hy, if_pos hc, ← hb2, ← hq]; rfl
  have t1 : ((y : Int) != (t : Int)) = false := by rw [hc]; simp
  have Hhs' := Lib.hid hs'
  clear hs hs'
  have HH := Lib.hid hh
  clear hh hc
  have Hz1 := Lib.hid hz1
  have Hs1 := Lib.hid hs1
  have Hq := Lib.hid hq
  have Ht := Lib.hid ht
  have Hy := Lib.hid hy
  have Hb2 := Lib.hid hb2
  clear hz1 hs1 hq ht hy hb2
  go_enter Tryz.func112, Tryz.ntmps112
  go_wp2_with fail
  refine (p.fetch (by omega) Hz1.out Hs1.out).mono ?_
  rintro e w1 ⟨rfl, p2⟩
  go_wp2_with fail
  refine (p2.branches_any i hi hk).mono ?_
  rintro e w3 ⟨rfl, rfl⟩
  rw [HH.out]
  go_wp2_with fail
  refine (p2.idle (by omega) (s' := ⟨s1.c, b2⟩) (by rw [← Hb2.out, ← Hq.out]; rfl)).mono ?_
  rintro e w4 ⟨rfl, p5⟩
  clear p2
  obtain ⟨g0, g1, g2, g3, g4, g5, g6, g7, g8, g9, g10, g11, g12, g13, g15, gf⟩ := p5.cells
  rw [Hq.out] at g4
  go_wp2_with fail
  refine (inPageOf_any q t qb tb Hy.out _).mono ?_
  rintro e w6 ⟨rfl, rfl⟩
  go_wp2
  (try simp only [Exit.inBlock, Exit.then])
  first | refine bodyPost_ret (results_none rfl _ _ _) rfl ?_ | refine bodyPost_end (results_none rfl _ _ _) rfl ?_
  refine ⟨rfl, ?_⟩
  exact p5.setPC _ t rfl tb Hhs'.out

set_option maxRecDepth 100000 in
theorem Play.branch_cross {F : Nat → Prop} {w W : World} {P : Nat} {o : Option Nat} {k : OpK} {s : St} {N : Nat} (p : Play F w W P o k s N) (i : Nat) (hi : i ∈ [41, 42, 43, 44, 45, 46, 47, 48]) (hk : k.nm = opTx i) (hh : holdsL s.fetch.2.c (opTx i).toList = true) (hc : ¬ inPage s.fetch.2.c.PC ((s.fetch.2.c.PC + offN s.fetch.1) % 65536) = (s.fetch.2.c.PC + offN s.fetch.1) % 65536) (hN : N ≤ 84) {s' : St} (hs : s.branchP (opTx i).toList = s') :
    Calls Tryz.prog 112 #[.pointer (some ⟨P, 0, none⟩)] W fun e w' => e = .returned (.tuple #[]) ∧ Play F w w' P o k s' (N + 3) := by
  obtain ⟨hA, hX, hY, hS, hP⟩ := p.pl.ok
  obtain ⟨z1, hz1⟩ : ∃ r_, s.fetch.1 = r_ := ⟨_, rfl⟩
  obtain ⟨s1, hs1⟩ : ∃ r_, s.fetch.2 = r_ := ⟨_, rfl⟩
  rw [hs1] at hh
  have z1b : z1 < 256 := by rw [← hz1]; exact p.byte _
  obtain ⟨q, hq⟩ : ∃ r_, s1.c.PC = r_ := ⟨_, rfl⟩
  obtain ⟨t, ht⟩ : ∃ r_, (q + offN z1) % 65536 = r_ := ⟨_, rfl⟩
  obtain ⟨y, hy⟩ : ∃ r_, inPage q t = r_ := ⟨_, rfl⟩
  obtain ⟨b2, hb2⟩ : ∃ r_, s1.b.rd q = r_ := ⟨_, rfl⟩
  rw [hs1, hz1, hq, ht, hy] at hc
  have qb : q < 65536 := by rw [← hq, ← hs1]; show (_ + 1) % 65536 < 65536; omega
  have tb : t < 65536 := by omega
  have yb : y < 65536 := by rw [← hy]; unfold inPage; omega
  have qb0 : s.c.PC < 65536 := hP
  have e5 : IntKind.u16.wrap ((q : Int) + IntKind.u16.wrap (IntKind.i8.wrap (z1 : Int))) = (t : Int) := off_wrap z1b ht
  have hs' : (⟨{ s1.c with PC := t }, b2.rd y⟩ : St) = s' := by rw [← hs]; unfold St.branchP; rw [hs1, hz1, hh, if_pos rfl, hq, ht, hy, if_neg hc, ← hb2, ← hq]; rfl
  have t1 : ((y : Int) != (t : Int)) = true := by simpa using fun h => hc (by omega)
  have Hhs' := Lib.hid hs'
  clear hs hs'
  have HH := Lib.hid hh
  clear hh hc
  have Hz1 := Lib.hid hz1
  have Hs1 := Lib.hid hs1
  have Hq := Lib.hid hq
  have Ht := Lib.hid ht
  have Hy := Lib.hid hy
  have Hb2 := Lib.hid hb2
  clear hz1 hs1 hq ht hy hb2
  obtain ⟨hm0, hm1⟩ := methR
  rcases o with _ | B
  · go_enter Tryz.func112, Tryz.ntmps112
    go_wp2_with fail
    refine (p.fetch (by omega) Hz1.out Hs1.out).mono ?_
    rintro e w1 ⟨rfl, p2⟩
    go_wp2_with fail
    refine (p2.branches_any i hi hk).mono ?_
    rintro e w3 ⟨rfl, rfl⟩
    rw [HH.out]
    go_wp2_with fail
    refine (p2.idle (by omega) (s' := ⟨s1.c, b2⟩) (by rw [← Hb2.out, ← Hq.out]; rfl)).mono ?_
    rintro e w4 ⟨rfl, p5⟩
    clear p2
    obtain ⟨g0, g1, g2, g3, g4, g5, g6, g7, g8, g9, g10, g11, g12, g13, g15, gf⟩ := p5.cells
    rw [Hq.out] at g4
    go_wp2_with fail
    refine (inPageOf_any q t qb tb Hy.out _).mono ?_
    rintro e w6 ⟨rfl, rfl⟩
    go_wp2_with fail
    refine (p5.read _ y rfl yb (by omega) rfl (s' := ⟨s1.c, b2.rd y⟩) rfl).mono ?_
    rintro e w7 ⟨rfl, p8⟩
    clear g0 g1 g2 g3 g4 g5 g6 g7 g8 g9 g10 g11 g12 g13 g15 gf
    clear p5
    obtain ⟨g0, g1, g2, g3, g4, g5, g6, g7, g8, g9, g10, g11, g12, g13, g15, gf⟩ := p8.cells
    go_wp2
    (try simp only [Exit.inBlock, Exit.then])
    first | refine bodyPost_ret (results_none rfl _ _ _) rfl ?_ | refine bodyPost_end (results_none rfl _ _ _) rfl ?_
    refine ⟨rfl, ?_⟩
    exact p8.setPC _ t rfl tb Hhs'.out
  · go_enter Tryz.func112, Tryz.ntmps112
    go_wp2_with fail
    refine (p.fetch (by omega) Hz1.out Hs1.out).mono ?_
    rintro e w1 ⟨rfl, p2⟩
    go_wp2_with fail
    refine (p2.branches_any i hi hk).mono ?_
    rintro e w3 ⟨rfl, rfl⟩
    rw [HH.out]
    go_wp2_with fail
    refine (p2.idle (by omega) (s' := ⟨s1.c, b2⟩) (by rw [← Hb2.out, ← Hq.out]; rfl)).mono ?_
    rintro e w4 ⟨rfl, p5⟩
    clear p2
    obtain ⟨g0, g1, g2, g3, g4, g5, g6, g7, g8, g9, g10, g11, g12, g13, g15, gf⟩ := p5.cells
    rw [Hq.out] at g4
    go_wp2_with fail
    refine (inPageOf_any q t qb tb Hy.out _).mono ?_
    rintro e w6 ⟨rfl, rfl⟩
    go_wp2_with fail
    refine (p5.read _ y rfl yb (by omega) rfl (s' := ⟨s1.c, b2.rd y⟩) rfl).mono ?_
    rintro e w7 ⟨rfl, p8⟩
    clear g0 g1 g2 g3 g4 g5 g6 g7 g8 g9 g10 g11 g12 g13 g15 gf
    clear p5
    obtain ⟨g0, g1, g2, g3, g4, g5, g6, g7, g8, g9, g10, g11, g12, g13, g15, gf⟩ := p8.cells
    go_wp2
    (try simp only [Exit.inBlock, Exit.then])
    first | refine bodyPost_ret (results_none rfl _ _ _) rfl ?_ | refine bodyPost_end (results_none rfl _ _ _) rfl ?_
    refine ⟨rfl, ?_⟩
    exact p8.setPC _ t rfl tb Hhs'.out

theorem Play.branch {F : Nat → Prop} {w W : World} {P : Nat} {o : Option Nat} {k : OpK} {s : St} {N : Nat} (p : Play F w W P o k s N) (i : Nat) (hi : i ∈ [41, 42, 43, 44, 45, 46, 47, 48]) (hk : k.nm = opTx i) (hN : N ≤ 80) {s' : St} (hs : s.branchP (opTx i).toList = s') :
    Calls Tryz.prog 112 #[.pointer (some ⟨P, 0, none⟩)] W fun e w' => e = .returned (.tuple #[]) ∧ Play F w w' P o k s' (N + 3) := by
  cases h : holdsL s.fetch.2.c (opTx i).toList with
  | false => exact (p.branch_no i hi hk h (by omega) hs).mono fun _ _ h => ⟨h.1, h.2.mono (by omega)⟩
  | true =>
    by_cases hc : inPage s.fetch.2.c.PC ((s.fetch.2.c.PC + offN s.fetch.1) % 65536) = (s.fetch.2.c.PC + offN s.fetch.1) % 65536
    · exact (p.branch_same i hi hk h hc (by omega) hs).mono fun _ _ h => ⟨h.1, h.2.mono (by omega)⟩
    · exact (p.branch_cross i hi hk h hc (by omega) hs).mono fun _ _ h => ⟨h.1, h.2.mono (by omega)⟩

end Go.Proofs.YtblchdmemhhcbaaGreat

namespace Go.Proofs.YtblchdmemhhcbaaGreat
set_option linter.unusedVariables false
set_option linter.unusedSimpArgs false
open Go.RowKit

/-- A byte's operation. -/
abbrev opKof (n : Nat) : OpK := ⟨opName n, opMode n, opSize n, opKind n⟩

theorem op_k6k {b : Nat} (hb : b < 256) : opKind b = 6 → (opMode b = 6 ∨ opMode b = 9) := byte_all (p := fun b => opKind b = 6 → (opMode b = 6 ∨ opMode b = 9)) (by decide +kernel) hb

theorem op_k11 {b : Nat} (hb : b < 256) : opKind b = 11 → (opId b = 35 ∨ opId b = 33) := byte_all (p := fun b => opKind b = 11 → (opId b = 35 ∨ opId b = 33)) (by decide +kernel) hb

theorem op_k12 {b : Nat} (hb : b < 256) : opKind b = 12 → (opId b = 36 ∨ opId b = 34) := byte_all (p := fun b => opKind b = 12 → (opId b = 36 ∨ opId b = 34)) (by decide +kernel) hb

theorem op_kall {b : Nat} (hb : b < 256) : opKind b = 0 ∨ opKind b = 1 ∨ opKind b = 2 ∨ opKind b = 3 ∨ opKind b = 4 ∨ opKind b = 5 ∨ opKind b = 6 ∨ opKind b = 7 ∨ opKind b = 8 ∨ opKind b = 9 ∨ opKind b = 10 ∨ opKind b = 11 ∨ opKind b = 12 :=
  byte_all (p := fun b => opKind b = 0 ∨ opKind b = 1 ∨ opKind b = 2 ∨ opKind b = 3 ∨ opKind b = 4 ∨ opKind b = 5 ∨ opKind b = 6 ∨ opKind b = 7 ∨ opKind b = 8 ∨ opKind b = 9 ∨ opKind b = 10 ∨ opKind b = 11 ∨ opKind b = 12) (by decide +kernel) hb

theorem placeOr {m : Int} (h : m = 2 ∨ m ∈ placeModes) : m = 2 ∨ m = 3 ∨ m = 4 ∨ m = 5 ∨ m = 6 ∨ m = 7 ∨ m = 8 ∨ m = 10 ∨ m = 11 := by
  rcases h with h | h
  · exact .inl h
  · exact .inr (place_or h)

set_option maxRecDepth 10000 in
theorem Play.step {F : Nat → Prop} {w W : World} {P : Nat} {o : Option Nat} {n : Nat} {s : St} {N : Nat} (p : Play F w W P o (opKof n) s N) (hn : n < 256) (hN : N ≤ 40) {t : St} (hs : s.stepP n = t) :
    Calls Tryz.prog 39 #[.pointer (some ⟨P, 0, none⟩)] W fun e w' => e = .returned (.tuple #[]) ∧ Play F w w' P o (opKof n) t (N + 9) := by
  unfold St.stepP at hs
  rcases op_kall hn with h | h | h | h | h | h | h | h | h | h | h | h | h
  · rw [if_pos h] at hs
    exact (p.step_none h (by omega) hs).mono fun _ _ h => ⟨h.1, h.2.mono (by omega)⟩
  all_goals
    rw [if_neg (by omega)] at hs
    unfold St.kindP at hs
    simp only [h, Int.reduceEq, if_true, if_false, reduceIte] at hs
  · refine p.step_1 (t := t) h (fun W' q => ?_) (by omega) rfl
    rcases op_k1 hn h with ⟨hm, hi⟩ | ⟨hm, hi⟩
    · rw [hm] at hs
      exact (q.imp_any _ hi rfl hm (by omega) hs).mono fun _ _ h => ⟨h.1, h.2.mono (by omega)⟩
    · rw [hm] at hs
      exact (q.acc_any _ hi rfl hm (by omega) hs).mono fun _ _ h => ⟨h.1, h.2.mono (by omega)⟩
  · refine p.step_2 (t := t) h (fun W' q => ?_) (by omega) rfl
    obtain ⟨hi, hm⟩ := op_k2 hn h
    exact (q.playRead _ (by simpa [or_comm, or_assoc, or_left_comm] using hi) rfl (placeOr hm) (by omega) (by rw [← hs, ← h]; rfl)).mono fun _ _ h => ⟨h.1, h.2.mono (by omega)⟩
  · refine p.step_3 (t := t) h (fun W' q => ?_) (by omega) rfl
    obtain ⟨hi, hm⟩ := op_k3 hn h
    exact (q.playWrite _ (by simpa [or_comm, or_assoc, or_left_comm] using hi) rfl (placeOr (.inr hm)) (by omega) (by rw [← hs, ← h]; rfl)).mono fun _ _ h => ⟨h.1, h.2.mono (by omega)⟩
  · refine p.step_4 (t := t) h (fun W' q => ?_) (by omega) rfl
    obtain ⟨hi, hm⟩ := op_k4 hn h
    exact (q.playModify _ (by simpa [or_comm, or_assoc, or_left_comm] using hi) rfl (placeOr (.inr hm)) (by omega) (by rw [← hs, ← h]; rfl)).mono fun _ _ h => ⟨h.1, h.2.mono (by omega)⟩
  · refine p.step_5 (t := t) h (fun W' q => ?_) (by omega) rfl
    exact (q.branch _ (op_k5 hn h) rfl (by omega) hs).mono fun _ _ h => ⟨h.1, h.2.mono (by omega)⟩
  · refine p.step_6 (t := t) h (fun W' q => ?_) (by omega) rfl
    rcases op_k6k hn h with hm | hm
    · rw [hm] at hs
      exact (q.jump_abs hm (by omega) hs).mono fun _ _ h => ⟨h.1, h.2.mono (by omega)⟩
    · rw [hm] at hs
      exact (q.jump_ind hm (by omega) hs).mono fun _ _ h => ⟨h.1, h.2.mono (by omega)⟩
  · refine p.step_7 (t := t) h (fun W' q => ?_) (by omega) rfl
    exact (q.playSub (by omega) hs).mono fun _ _ h => ⟨h.1, h.2.mono (by omega)⟩
  · refine p.step_8 (t := t) h (fun W' q => ?_) (by omega) rfl
    exact (q.playBack (by omega) hs).mono fun _ _ h => ⟨h.1, h.2.mono (by omega)⟩
  · refine p.step_9 (t := t) h (fun W' q => ?_) (by omega) rfl
    exact (q.playRti (by omega) hs).mono fun _ _ h => ⟨h.1, h.2.mono (by omega)⟩
  · refine p.step_10 (t := t) h (fun W' q => ?_) (by omega) rfl
    exact (q.playBrk (by omega) hs).mono fun _ _ h => ⟨h.1, h.2.mono (by omega)⟩
  · refine p.step_11 (t := t) h (fun W' q => ?_) (by omega) rfl
    rcases op_k11 hn h with hi | hi
    · have e : opName n = ⟨#[80, 72, 65]⟩ := by unfold opName; rw [hi]; rfl
      rw [e, show (⟨#[80, 72, 65]⟩ : ByteArray).toList = [80, 72, 65] by rw [ByteArray.toList_eq]] at hs
      exact (q.push_PHA e (by omega) hs).mono fun _ _ h => ⟨h.1, h.2.mono (by omega)⟩
    · have e : opName n = ⟨#[80, 72, 80]⟩ := by unfold opName; rw [hi]; rfl
      rw [e, show (⟨#[80, 72, 80]⟩ : ByteArray).toList = [80, 72, 80] by rw [ByteArray.toList_eq]] at hs
      exact (q.push_PHP e (by omega) hs).mono fun _ _ h => ⟨h.1, h.2.mono (by omega)⟩
  · refine p.step_12 (t := t) h (fun W' q => ?_) (by omega) rfl
    rcases op_k12 hn h with hi | hi
    · have e : opName n = ⟨#[80, 76, 65]⟩ := by unfold opName; rw [hi]; rfl
      rw [e, show (⟨#[80, 76, 65]⟩ : ByteArray).toList = [80, 76, 65] by rw [ByteArray.toList_eq]] at hs
      exact (q.pull_PLA e (by omega) hs).mono fun _ _ h => ⟨h.1, h.2.mono (by omega)⟩
    · have e : opName n = ⟨#[80, 76, 80]⟩ := by unfold opName; rw [hi]; rfl
      rw [e, show (⟨#[80, 76, 80]⟩ : ByteArray).toList = [80, 76, 80] by rw [ByteArray.toList_eq]] at hs
      exact (q.pull_PLP e (by omega) hs).mono fun _ _ h => ⟨h.1, h.2.mono (by omega)⟩

end Go.Proofs.YtblchdmemhhcbaaGreat

namespace Go.Proofs.YtblchdmemhhcbaaGreat
set_option linter.unusedVariables false
set_option linter.unusedSimpArgs false
open Go.RowKit

def im0r : Nat → Int
  | 0 => 0
  | 1 => 6
  | 2 => 0
  | 3 => 0
  | 4 => -1
  | 5 => 2
  | 6 => 2
  | _ => 2

def im0p : Nat → Int
  | 0 => -1
  | 1 => 3
  | 2 => 0
  | 3 => 6
  | 4 => 12
  | 5 => 4
  | 6 => 0
  | _ => 7

def im2p : Nat → Int
  | 0 => 2
  | 1 => 3
  | 2 => 0
  | 3 => 6
  | 4 => -1
  | 5 => 4
  | 6 => 0
  | _ => 7

def im0 (r p : Nat) : Int := if p = 0 then im0r r else if p = 3 ∧ r = 3 then 9 else im0p p

def im2 (r p : Nat) : Int := if p = 2 ∧ r < 4 then 1 else if p = 5 ∧ (r = 4 ∨ r = 5) then 5 else if p = 7 ∧ (r = 4 ∨ r = 5) then 8 else im2p p

def imAt (r p s : Nat) : Int := if s = 0 then im0 r p else if s = 1 then oneMode p else im2 r p

theorem imAt_op {b : Nat} (hb : b < 256) (h : opId b ≠ 0) : imAt (b / 32) (b / 4 % 8) (b % 4) = opMode b := by
  have := byte_all (p := fun b => opId b = 0 ∨ imAt (b / 32) (b / 4 % 8) (b % 4) = opMode b) (by decide +kernel) hb
  rcases this with h0 | h0
  · exact absurd h0 h
  · exact h0

set_option maxRecDepth 100000 in
theorem implSizeM_any (m : Int) (w : World) :
    Calls Tryz.prog 72 #[.int .i64 m] w fun e w' => e = .returned (.int .i64 (sizeOfM m)) ∧ w = w' := by
  go_enter Tryz.func72, Tryz.ntmps72
  go_wp2
  all_goals go_ret
  all_goals refine ⟨?_, rfl⟩
  all_goals simp_all [sizeOfM]

set_option maxRecDepth 100000 in
set_option maxHeartbeats 4000000 in
theorem implKindM_any (s : ByteArray) (m : Int) (w : World) :
    Calls Tryz.prog 107 #[.string s, .int .i64 m] w fun e w' => e = .returned (.int .i64 (kindM s.toList m)) ∧ w = w' := by
  go_enter Tryz.func107, Tryz.ntmps107
  go_wp2
  all_goals go_ret
  all_goals refine ⟨?_, rfl⟩
  all_goals simp_all [kindM]

set_option maxRecDepth 100000 in
set_option maxHeartbeats 4000000 in
theorem implKindN_any (s : ByteArray) (m : Int) (w : World) :
    Calls Tryz.prog 73 #[.string s, .int .i64 m] w fun e w' => e = .returned (.int .i64 (kindN s.toList m)) ∧ w = w' := by
  go_enter Tryz.func73, Tryz.ntmps73
  go_wp2_with (go_at_call 107; refine (implKindM_any _ _ _).mono ?_; rintro e w' ⟨rfl, rfl⟩)
  all_goals go_ret
  all_goals refine ⟨?_, rfl⟩
  all_goals simp_all [kindN]

set_option maxRecDepth 100000 in
theorem implMode0_any (r p : Nat) (hr : r < 8) (hp : p < 8) (w : World) :
    Calls Tryz.prog 105 #[.int .i64 r, .int .i64 p] w fun e w' => e = .returned (.int .i64 (im0 r p)) ∧ w = w' := by
  have hT : ∀ w : World, (Instr.index 141 (.agg #[.int .i64 0, .int .i64 6, .int .i64 0, .int .i64 0, .int .i64 (-1), .int .i64 2, .int .i64 2, .int .i64 2]) (.int .i64 r)).run Tryz.prog w = .ok (.int .i64 (im0r r)) w := by
    intro w
    rcases r with _ | _ | _ | _ | _ | _ | _ | _ | r <;> first | omega | kernel_rfl
  have hP : ∀ w : World, (Instr.index 141 (.agg #[.int .i64 (-1), .int .i64 3, .int .i64 0, .int .i64 6, .int .i64 12, .int .i64 4, .int .i64 0, .int .i64 7]) (.int .i64 p)).run Tryz.prog w = .ok (.int .i64 (im0p p)) w := by
    intro w
    rcases p with _ | _ | _ | _ | _ | _ | _ | _ | p <;> first | omega | kernel_rfl
  cases k0 : ((p : Int) == 0) with
  | true =>
    have h0 : p = 0 := by simp at k0; omega
    go_enter Tryz.func105, Tryz.ntmps105
    go_wp2
    go_ret
    exact ⟨by simp [im0, h0], rfl⟩
  | false =>
    have h0 : ¬ p = 0 := by simp at k0; omega
    cases k3 : ((p : Int) == 3) with
    | true =>
      cases g3 : ((r : Int) == 3) with
      | true =>
        have h3 : p = 3 := by simp at k3; omega
        have j3 : r = 3 := by simp at g3; omega
        go_enter Tryz.func105, Tryz.ntmps105
        go_wp2
        go_ret
        exact ⟨by simp [im0, h3, j3], rfl⟩
      | false =>
        have j3 : ¬ r = 3 := by simp at g3; omega
        go_enter Tryz.func105, Tryz.ntmps105
        go_wp2
        go_ret
        exact ⟨by simp [im0, h0, j3], rfl⟩
    | false =>
      have h3 : ¬ p = 3 := by simp at k3; omega
      go_enter Tryz.func105, Tryz.ntmps105
      go_wp2
      go_ret
      exact ⟨by simp [im0, h0, h3], rfl⟩

set_option maxRecDepth 100000 in
theorem implMode2_24 (r p : Nat) (hp : p < 8) (k0 : ((r : Int) == 4) = true) (k1 : ((p : Int) == 2) = true) (k2 : ¬ (r : Int) < 4) (k3 : ((p : Int) == 5) = false) (k4 : ((p : Int) == 7) = false) (w : World) :
    Calls Tryz.prog 106 #[.int .i64 r, .int .i64 p] w fun e w' => e = .returned (.int .i64 (im2p p)) ∧ w = w' := by
  have hP : ∀ w : World, (Instr.index 141 (.agg #[.int .i64 2, .int .i64 3, .int .i64 0, .int .i64 6, .int .i64 (-1), .int .i64 4, .int .i64 0, .int .i64 7]) (.int .i64 p)).run Tryz.prog w = .ok (.int .i64 (im2p p)) w := by
    intro w
    rcases p with _ | _ | _ | _ | _ | _ | _ | _ | p <;> first | omega | kernel_rfl
  go_enter Tryz.func106, Tryz.ntmps106
  go_wp2
  all_goals go_ret
  all_goals exact ⟨rfl, rfl⟩

set_option maxRecDepth 100000 in
theorem implMode2_54 (r p : Nat) (hp : p < 8) (k0 : ((r : Int) == 4) = true) (k1 : ((p : Int) == 2) = false) (k2 : ((p : Int) == 5) = true) (w : World) :
    Calls Tryz.prog 106 #[.int .i64 r, .int .i64 p] w fun e w' => e = .returned (.int .i64 (5)) ∧ w = w' := by
  go_enter Tryz.func106, Tryz.ntmps106
  go_wp2
  all_goals go_ret
  all_goals exact ⟨rfl, rfl⟩

set_option maxRecDepth 100000 in
theorem implMode2_74 (r p : Nat) (hp : p < 8) (k0 : ((r : Int) == 4) = true) (k1 : ((p : Int) == 2) = false) (k2 : ((p : Int) == 5) = false) (k3 : ((p : Int) == 7) = true) (w : World) :
    Calls Tryz.prog 106 #[.int .i64 r, .int .i64 p] w fun e w' => e = .returned (.int .i64 (8)) ∧ w = w' := by
  go_enter Tryz.func106, Tryz.ntmps106
  go_wp2
  all_goals go_ret
  all_goals exact ⟨rfl, rfl⟩

set_option maxRecDepth 100000 in
theorem implMode2_o4 (r p : Nat) (hp : p < 8) (k0 : ((r : Int) == 4) = true) (k1 : ((p : Int) == 2) = false) (k2 : ((p : Int) == 5) = false) (k3 : ((p : Int) == 7) = false) (w : World) :
    Calls Tryz.prog 106 #[.int .i64 r, .int .i64 p] w fun e w' => e = .returned (.int .i64 (im2p p)) ∧ w = w' := by
  have hP : ∀ w : World, (Instr.index 141 (.agg #[.int .i64 2, .int .i64 3, .int .i64 0, .int .i64 6, .int .i64 (-1), .int .i64 4, .int .i64 0, .int .i64 7]) (.int .i64 p)).run Tryz.prog w = .ok (.int .i64 (im2p p)) w := by
    intro w
    rcases p with _ | _ | _ | _ | _ | _ | _ | _ | p <;> first | omega | kernel_rfl
  go_enter Tryz.func106, Tryz.ntmps106
  go_wp2
  all_goals go_ret
  all_goals exact ⟨rfl, rfl⟩

set_option maxRecDepth 100000 in
theorem implMode2_25 (r p : Nat) (hp : p < 8) (k0 : ((r : Int) == 4) = false) (k1 : ((r : Int) == 5) = true) (k2 : ((p : Int) == 2) = true) (k3 : ¬ (r : Int) < 4) (k4 : ((p : Int) == 5) = false) (k5 : ((p : Int) == 7) = false) (w : World) :
    Calls Tryz.prog 106 #[.int .i64 r, .int .i64 p] w fun e w' => e = .returned (.int .i64 (im2p p)) ∧ w = w' := by
  have hP : ∀ w : World, (Instr.index 141 (.agg #[.int .i64 2, .int .i64 3, .int .i64 0, .int .i64 6, .int .i64 (-1), .int .i64 4, .int .i64 0, .int .i64 7]) (.int .i64 p)).run Tryz.prog w = .ok (.int .i64 (im2p p)) w := by
    intro w
    rcases p with _ | _ | _ | _ | _ | _ | _ | _ | p <;> first | omega | kernel_rfl
  go_enter Tryz.func106, Tryz.ntmps106
  go_wp2
  all_goals go_ret
  all_goals exact ⟨rfl, rfl⟩

set_option maxRecDepth 100000 in
theorem implMode2_55 (r p : Nat) (hp : p < 8) (k0 : ((r : Int) == 4) = false) (k1 : ((r : Int) == 5) = true) (k2 : ((p : Int) == 2) = false) (k3 : ((p : Int) == 5) = true) (w : World) :
    Calls Tryz.prog 106 #[.int .i64 r, .int .i64 p] w fun e w' => e = .returned (.int .i64 (5)) ∧ w = w' := by
  go_enter Tryz.func106, Tryz.ntmps106
  go_wp2
  all_goals go_ret
  all_goals exact ⟨rfl, rfl⟩

set_option maxRecDepth 100000 in
theorem implMode2_75 (r p : Nat) (hp : p < 8) (k0 : ((r : Int) == 4) = false) (k1 : ((r : Int) == 5) = true) (k2 : ((p : Int) == 2) = false) (k3 : ((p : Int) == 5) = false) (k4 : ((p : Int) == 7) = true) (w : World) :
    Calls Tryz.prog 106 #[.int .i64 r, .int .i64 p] w fun e w' => e = .returned (.int .i64 (8)) ∧ w = w' := by
  go_enter Tryz.func106, Tryz.ntmps106
  go_wp2
  all_goals go_ret
  all_goals exact ⟨rfl, rfl⟩

set_option maxRecDepth 100000 in
theorem implMode2_o5 (r p : Nat) (hp : p < 8) (k0 : ((r : Int) == 4) = false) (k1 : ((r : Int) == 5) = true) (k2 : ((p : Int) == 2) = false) (k3 : ((p : Int) == 5) = false) (k4 : ((p : Int) == 7) = false) (w : World) :
    Calls Tryz.prog 106 #[.int .i64 r, .int .i64 p] w fun e w' => e = .returned (.int .i64 (im2p p)) ∧ w = w' := by
  have hP : ∀ w : World, (Instr.index 141 (.agg #[.int .i64 2, .int .i64 3, .int .i64 0, .int .i64 6, .int .i64 (-1), .int .i64 4, .int .i64 0, .int .i64 7]) (.int .i64 p)).run Tryz.prog w = .ok (.int .i64 (im2p p)) w := by
    intro w
    rcases p with _ | _ | _ | _ | _ | _ | _ | _ | p <;> first | omega | kernel_rfl
  go_enter Tryz.func106, Tryz.ntmps106
  go_wp2
  all_goals go_ret
  all_goals exact ⟨rfl, rfl⟩

set_option maxRecDepth 100000 in
theorem implMode2_2y (r p : Nat) (hp : p < 8) (k0 : ((r : Int) == 4) = false) (k1 : ((r : Int) == 5) = false) (k2 : ((p : Int) == 2) = true) (k3 : (r : Int) < 4) (w : World) :
    Calls Tryz.prog 106 #[.int .i64 r, .int .i64 p] w fun e w' => e = .returned (.int .i64 (1)) ∧ w = w' := by
  go_enter Tryz.func106, Tryz.ntmps106
  go_wp2
  all_goals go_ret
  all_goals exact ⟨rfl, rfl⟩

set_option maxRecDepth 100000 in
theorem implMode2_2n (r p : Nat) (hp : p < 8) (k0 : ((r : Int) == 4) = false) (k1 : ((r : Int) == 5) = false) (k2 : ((p : Int) == 2) = true) (k3 : ¬ (r : Int) < 4) (k4 : ((p : Int) == 5) = false) (k5 : ((p : Int) == 7) = false) (w : World) :
    Calls Tryz.prog 106 #[.int .i64 r, .int .i64 p] w fun e w' => e = .returned (.int .i64 (im2p p)) ∧ w = w' := by
  have hP : ∀ w : World, (Instr.index 141 (.agg #[.int .i64 2, .int .i64 3, .int .i64 0, .int .i64 6, .int .i64 (-1), .int .i64 4, .int .i64 0, .int .i64 7]) (.int .i64 p)).run Tryz.prog w = .ok (.int .i64 (im2p p)) w := by
    intro w
    rcases p with _ | _ | _ | _ | _ | _ | _ | _ | p <;> first | omega | kernel_rfl
  go_enter Tryz.func106, Tryz.ntmps106
  go_wp2
  all_goals go_ret
  all_goals exact ⟨rfl, rfl⟩

set_option maxRecDepth 100000 in
theorem implMode2_5n (r p : Nat) (hp : p < 8) (k0 : ((r : Int) == 4) = false) (k1 : ((r : Int) == 5) = false) (k2 : ((p : Int) == 2) = false) (k3 : ((p : Int) == 5) = true) (k4 : ((p : Int) == 7) = false) (w : World) :
    Calls Tryz.prog 106 #[.int .i64 r, .int .i64 p] w fun e w' => e = .returned (.int .i64 (im2p p)) ∧ w = w' := by
  have hP : ∀ w : World, (Instr.index 141 (.agg #[.int .i64 2, .int .i64 3, .int .i64 0, .int .i64 6, .int .i64 (-1), .int .i64 4, .int .i64 0, .int .i64 7]) (.int .i64 p)).run Tryz.prog w = .ok (.int .i64 (im2p p)) w := by
    intro w
    rcases p with _ | _ | _ | _ | _ | _ | _ | _ | p <;> first | omega | kernel_rfl
  go_enter Tryz.func106, Tryz.ntmps106
  go_wp2
  all_goals go_ret
  all_goals exact ⟨rfl, rfl⟩

set_option maxRecDepth 100000 in
theorem implMode2_7n (r p : Nat) (hp : p < 8) (k0 : ((r : Int) == 4) = false) (k1 : ((r : Int) == 5) = false) (k2 : ((p : Int) == 2) = false) (k3 : ((p : Int) == 5) = false) (k4 : ((p : Int) == 7) = true) (w : World) :
    Calls Tryz.prog 106 #[.int .i64 r, .int .i64 p] w fun e w' => e = .returned (.int .i64 (im2p p)) ∧ w = w' := by
  have hP : ∀ w : World, (Instr.index 141 (.agg #[.int .i64 2, .int .i64 3, .int .i64 0, .int .i64 6, .int .i64 (-1), .int .i64 4, .int .i64 0, .int .i64 7]) (.int .i64 p)).run Tryz.prog w = .ok (.int .i64 (im2p p)) w := by
    intro w
    rcases p with _ | _ | _ | _ | _ | _ | _ | _ | p <;> first | omega | kernel_rfl
  go_enter Tryz.func106, Tryz.ntmps106
  go_wp2
  all_goals go_ret
  all_goals exact ⟨rfl, rfl⟩

set_option maxRecDepth 100000 in
theorem implMode2_on (r p : Nat) (hp : p < 8) (k0 : ((r : Int) == 4) = false) (k1 : ((r : Int) == 5) = false) (k2 : ((p : Int) == 2) = false) (k3 : ((p : Int) == 5) = false) (k4 : ((p : Int) == 7) = false) (w : World) :
    Calls Tryz.prog 106 #[.int .i64 r, .int .i64 p] w fun e w' => e = .returned (.int .i64 (im2p p)) ∧ w = w' := by
  have hP : ∀ w : World, (Instr.index 141 (.agg #[.int .i64 2, .int .i64 3, .int .i64 0, .int .i64 6, .int .i64 (-1), .int .i64 4, .int .i64 0, .int .i64 7]) (.int .i64 p)).run Tryz.prog w = .ok (.int .i64 (im2p p)) w := by
    intro w
    rcases p with _ | _ | _ | _ | _ | _ | _ | _ | p <;> first | omega | kernel_rfl
  go_enter Tryz.func106, Tryz.ntmps106
  go_wp2
  all_goals go_ret
  all_goals exact ⟨rfl, rfl⟩

theorem implMode2_any (r p : Nat) (_hr : r < 8) (hp : p < 8) (w : World) :
    Calls Tryz.prog 106 #[.int .i64 r, .int .i64 p] w fun e w' => e = .returned (.int .i64 (im2 r p)) ∧ w = w' := by
  by_cases h4 : r = 4
  · by_cases p2 : p = 2
    · simpa [im2, h4, p2] using implMode2_24 r p hp (by simp; omega) (by simp; omega) (by omega) (by simp; omega) (by simp; omega) w
    by_cases p5 : p = 5
    · simpa [im2, h4, p5] using implMode2_54 r p hp (by simp; omega) (by simp; omega) (by simp; omega) w
    by_cases p7 : p = 7
    · simpa [im2, h4, p7] using implMode2_74 r p hp (by simp; omega) (by simp; omega) (by simp; omega) (by simp; omega) w
    · simpa [im2, h4, p2, p5, p7] using implMode2_o4 r p hp (by simp; omega) (by simp; omega) (by simp; omega) (by simp; omega) w
  by_cases h5 : r = 5
  · by_cases p2 : p = 2
    · simpa [im2, h5, p2] using implMode2_25 r p hp (by simp; omega) (by simp; omega) (by simp; omega) (by omega) (by simp; omega) (by simp; omega) w
    by_cases p5 : p = 5
    · simpa [im2, h5, p5] using implMode2_55 r p hp (by simp; omega) (by simp; omega) (by simp; omega) (by simp; omega) w
    by_cases p7 : p = 7
    · simpa [im2, h5, p7] using implMode2_75 r p hp (by simp; omega) (by simp; omega) (by simp; omega) (by simp; omega) (by simp; omega) w
    · simpa [im2, h5, p2, p5, p7] using implMode2_o5 r p hp (by simp; omega) (by simp; omega) (by simp; omega) (by simp; omega) (by simp; omega) w
  by_cases p2 : p = 2
  · by_cases hl : r < 4
    · simpa [im2, hl, p2] using implMode2_2y r p hp (by simp; omega) (by simp; omega) (by simp; omega) (by omega) w
    · simpa [im2, hl, p2] using implMode2_2n r p hp (by simp; omega) (by simp; omega) (by simp; omega) (by omega) (by simp; omega) (by simp; omega) w
  by_cases p5 : p = 5
  · simpa [im2, h4, h5, p5] using implMode2_5n r p hp (by simp; omega) (by simp; omega) (by simp; omega) (by simp; omega) (by simp; omega) w
  by_cases p7 : p = 7
  · simpa [im2, h4, h5, p7] using implMode2_7n r p hp (by simp; omega) (by simp; omega) (by simp; omega) (by simp; omega) (by simp; omega) w
  · simpa [im2, h4, h5, p2, p5, p7] using implMode2_on r p hp (by simp; omega) (by simp; omega) (by simp; omega) (by simp; omega) (by simp; omega) w

set_option maxRecDepth 100000 in
theorem implModeAt_any (r p s : Nat) (hr : r < 8) (hp : p < 8) (w : World) :
    Calls Tryz.prog 71 #[.int .i64 r, .int .i64 p, .int .i64 s] w fun e w' => e = .returned (.int .i64 (imAt r p s)) ∧ w = w' := by
  have hP : ∀ w : World, (Instr.index 141 (.agg #[.int .i64 10, .int .i64 3, .int .i64 2, .int .i64 6, .int .i64 11, .int .i64 4, .int .i64 8, .int .i64 7]) (.int .i64 p)).run Tryz.prog w = .ok (.int .i64 (oneMode p)) w := by
    intro w
    rcases p with _ | _ | _ | _ | _ | _ | _ | _ | p <;> first | omega | kernel_rfl
  cases k0 : ((s : Int) == 0) with
  | true =>
    have h0 : s = 0 := by simp at k0; omega
    go_enter Tryz.func71, Tryz.ntmps71
    go_wp2_with fail
    refine (implMode0_any r p hr hp _).mono ?_
    rintro e w' ⟨rfl, rfl⟩
    go_wp2
    go_ret
    exact ⟨by simp [imAt, h0], rfl⟩
  | false =>
    have h0 : ¬ s = 0 := by simp at k0; omega
    cases k1 : ((s : Int) == 1) with
    | true =>
      have h1 : s = 1 := by simp at k1; omega
      go_enter Tryz.func71, Tryz.ntmps71
      go_wp2
      go_ret
      exact ⟨by simp [imAt, h1], rfl⟩
    | false =>
      have h1 : ¬ s = 1 := by simp at k1; omega
      go_enter Tryz.func71, Tryz.ntmps71
      go_wp2_with fail
      refine (implMode2_any r p hr hp _).mono ?_
      rintro e w' ⟨rfl, rfl⟩
      go_wp2
      go_ret
      exact ⟨by simp [imAt, h0, h1], rfl⟩

set_option maxRecDepth 100000 in
theorem implSplit_any (b : Nat) (hb : b < 256) (w : World) :
    Calls Tryz.prog 69 #[.int .i64 b] w fun e w' => e = .returned (.tuple #[.int .i64 ((b / 32 : Nat) : Int), .int .i64 ((b / 4 % 8 : Nat) : Int), .int .i64 ((b % 4 : Nat) : Int)]) ∧ w = w' := by
  go_enter Tryz.func69, Tryz.ntmps69
  go_wp2
  exact bodyPost_ret (v := .tuple #[.int .i64 ((b / 32 : Nat) : Int), .int .i64 ((b / 4 % 8 : Nat) : Int), .int .i64 ((b % 4 : Nat) : Int)]) (by simp [results, Tryz.results69, go_sem]) rfl ⟨rfl, rfl⟩

end Go.Proofs.YtblchdmemhhcbaaGreat
