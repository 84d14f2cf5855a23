/-
  Contracts over the program: an interrupt (serve); the bus that a memory gives (busTo); what is told of a player (told).
-/
import Derived.Test.YtblchdmemhhcbaaQSPlayI
import Derived.Test.YtblchdmemhhcbaaQSImplRam
import Derived.Test.YtblchdmemhhcbaaQSStepA
namespace Go.Proofs.Ytblchdmemhhcbaa
set_option linter.unusedVariables false
set_option linter.unusedSimpArgs false
open Go.RowKit

set_option maxRecDepth 100000 in
theorem Play.serve_true {F : Nat → Prop} {w W : World} {P : Nat} {o : Option Nat} {k : OpK} {s : St} {N : Nat} (p : Play F w W P o k s N) (hN : N ≤ 76) {s' : St} (hs : s.idle.idle.inter 65530 false = s') :
    Calls Try.prog 26 #[.pointer (some ⟨P, 0, none⟩), .bool true] W fun e w' => e = .returned (.tuple #[]) ∧ Play F w w' P o k s' (N + 7) := by
  obtain ⟨hA, hX, hY, hS, hP⟩ := p.pl.ok
  obtain ⟨s1, hs1⟩ : ∃ r_, s.idle = r_ := ⟨_, rfl⟩
  obtain ⟨s2, hs2⟩ : ∃ r_, s1.idle = r_ := ⟨_, rfl⟩
  rw [hs1, hs2] at hs
  have HS := Lib.hid hs
  clear hs
  have Hs1 := Lib.hid hs1
  have Hs2 := Lib.hid hs2
  clear hs1 hs2
  go_enter Try.func26, Try.ntmps26
  go_wp2_with fail
  refine (p.idle (by omega) Hs1.out).mono ?_
  rintro e w1 ⟨rfl, p2⟩
  go_wp2_with fail
  refine (p2.idle (by omega) Hs2.out).mono ?_
  rintro e w3 ⟨rfl, p4⟩
  clear p2
  go_wp2_with fail
  refine (p4.inter 65530 (by omega) false (by omega) HS.out).mono ?_
  rintro e w5 ⟨rfl, p6⟩
  clear p4
  go_wp2
  (try simp only [Exit.inBlock, Exit.then])
  first | refine bodyPost_ret (results_none rfl _ _ _) rfl ?_ | refine bodyPost_end (results_none rfl _ _ _) rfl ?_
  refine ⟨rfl, ?_⟩
  exact p6

set_option maxRecDepth 100000 in
theorem Play.serve_false {F : Nat → Prop} {w W : World} {P : Nat} {o : Option Nat} {k : OpK} {s : St} {N : Nat} (p : Play F w W P o k s N) (hN : N ≤ 76) {s' : St} (hs : s.idle.idle.inter 65534 false = s') :
    Calls Try.prog 26 #[.pointer (some ⟨P, 0, none⟩), .bool false] W fun e w' => e = .returned (.tuple #[]) ∧ Play F w w' P o k s' (N + 7) := by
  obtain ⟨hA, hX, hY, hS, hP⟩ := p.pl.ok
  obtain ⟨s1, hs1⟩ : ∃ r_, s.idle = r_ := ⟨_, rfl⟩
  obtain ⟨s2, hs2⟩ : ∃ r_, s1.idle = r_ := ⟨_, rfl⟩
  rw [hs1, hs2] at hs
  have HS := Lib.hid hs
  clear hs
  have Hs1 := Lib.hid hs1
  have Hs2 := Lib.hid hs2
  clear hs1 hs2
  go_enter Try.func26, Try.ntmps26
  go_wp2_with fail
  refine (p.idle (by omega) Hs1.out).mono ?_
  rintro e w1 ⟨rfl, p2⟩
  go_wp2_with fail
  refine (p2.idle (by omega) Hs2.out).mono ?_
  rintro e w3 ⟨rfl, p4⟩
  clear p2
  go_wp2_with fail
  refine (p4.inter 65534 (by omega) false (by omega) HS.out).mono ?_
  rintro e w5 ⟨rfl, p6⟩
  clear p4
  go_wp2
  (try simp only [Exit.inBlock, Exit.then])
  first | refine bodyPost_ret (results_none rfl _ _ _) rfl ?_ | refine bodyPost_end (results_none rfl _ _ _) rfl ?_
  refine ⟨rfl, ?_⟩
  exact p6

theorem busTo_no (a : Option Addr) (n c : Nat) (h : ramN n = false) (w : World) :
    Calls Try.prog 25 #[ramV (.slice a n c)] w fun e w' => e = .returned (.iface 79 (.agg #[])) ∧ Below w.heap.size w w' := by
  have HO := fun w => implOk_any a n c w
  rw [h] at HO
  clear h
  go_enter Try.func25, Try.ntmps25
  go_wp2_with fail
  refine (HO _).mono ?_
  rintro e w1 ⟨rfl, d1⟩
  have b1 := bstep ((Below.refl _ w).alloc (Nat.le_refl _) _) d1
  go_wp2
  go_ret
  exact ⟨rfl, b1⟩

set_option maxRecDepth 100000 in
theorem busTo_yes (a : Option Addr) (c : Nat) (L : List Nat) (h : ramN L.length = true) (w : World) (hr : RowB w a L) (hc : L.length ≤ c) :
    Calls Try.prog 25 #[ramV (.slice a L.length c)] w fun e w' => ∃ B, e = .returned (.iface 80 (.pointer (some ⟨B, 0, none⟩))) ∧ WBusAt w' (fun i => w.heap.size ≤ i) B ⟨L, []⟩ ∧ Below w.heap.size w w' := by
  have HO := fun w => implOk_any a L.length c w
  rw [h] at HO
  have hn := ramN_pos h
  have eL : fillL L 0 [] = L := by
    unfold fillL
    rw [if_pos ⟨h, by simp⟩]
    rfl
  have HF := fun (W : World) (hW : RowB W a L) => implFill_any a c 0 L none 0 [] (by omega) W hW (RowB.none W none) (by simp) hc (by simp)
  rw [eL] at HF
  have HR := Lib.hid hr
  have HL := Lib.hid h
  clear h hr eL
  have q := BoxN.new w 34 #[.slice a L.length c]
  go_enter Try.func25, Try.ntmps25
  go_wp2_with fail
  refine (HO _).mono ?_
  rintro e w1 ⟨rfl, d1⟩
  have b1 := bstep ((Below.refl _ w).alloc (Nat.le_refl _) _) d1
  have q1 := q.below d1
  have c1 : w1.cell? ⟨w.heap.size, 0, none⟩ = some (.slice a L.length c) := q1.cell 0 _ rfl
  clear d1 q HO
  go_wp2_with fail
  refine (HF _ (RowB.below HR.out b1)).mono ?_
  rintro e w2 ⟨v, rfl, o2, d2⟩
  have b2 := bstep b1 d2
  clear c1
  obtain ⟨g, cap, rfl, _⟩ := o2.cells (by omega)
  have hg := (World.ownsRow.lt o2.2) g rfl
  go_wp2
  go_ret
  have x := BoxN.new w2 83 #[.slice (some ⟨g, 0, none⟩) L.length cap, .slice none 0 0]
  have al : Below w2.heap.size w2 (w2.alloc (.cells #[.slice (some ⟨g, 0, none⟩) L.length cap, .slice none 0 0] 83)) := (Below.refl _ _).alloc (Nat.le_refl _) _
  refine ⟨w2.heap.size, rfl, ⟨g, cap, .slice none 0 0, x, ?_, World.ownsRow_nil _ _ _ _, ?_, ?_, ?_, fun k ek => by simp [Value.ownBlock] at ek⟩, bstep b2 al⟩
  · exact (OwnB.base o2 (Nat.zero_le _)).below al
  · show w.heap.size ≤ w2.heap.size
    exact b2.size
  · show w.heap.size ≤ g
    have := b1.size
    omega
  · omega


set_option maxRecDepth 100000 in
theorem told_none {F : Nat → Prop} {w W : World} {P : Nat} {k : OpK} {s : St} {N : Nat} (p : Play F w W P none k s N) :
    Calls Try.prog 27 #[.pointer (some ⟨P, 0, none⟩)] W fun e w' => e = .returned (.tuple #[cpuV cpu0, ramV (.slice none 0 0), .slice none 0 0]) ∧ Below W.heap.size W w' := by
  have al : Below W.heap.size W ((W.alloc (.cells zeroCpu 33)).alloc (.cells #[.slice none 0 0] 34)) := ((Below.refl _ _).alloc (Nat.le_refl _) _).alloc (by simp) _
  have p1 := p.below al
  have hta : ∀ w : World, (Instr.typeAssert (busV none) 58 80 true).run Try.prog w = .ok (.tuple #[.pointer none, .bool false]) w := fun _ => by kernel_rfl
  have g11 : ((W.alloc (.cells zeroCpu 33)).alloc (.cells #[.slice none 0 0] 34)).cell? ⟨P, 11, none⟩ = some (busV none) := p1.cells.2.2.2.2.2.2.2.2.2.2.2.1
  go_enter Try.func27, Try.ntmps27
  go_wp2
  refine bodyPost_ret (v := .tuple #[cpuV cpu0, ramV (.slice none 0 0), .slice none 0 0]) (by simp [results, Try.results27, go_sem, cpu0]) rfl ⟨rfl, ?_⟩
  repeat (any_goals (first | (with_reducible exact al) | (with_reducible exact Below.refl _ _) | (with_reducible refine Below.drew ?_) | (with_reducible refine Below.setCell ?_ ?_ _) | (with_reducible refine Below.alloc ?_ ?_ _)))
  all_goals (first | (with_reducible exact Nat.le_refl _) | (simp; done) | (simp; omega))

/-- What is told of a player at a wired bus. -/
def Told (W : World) (s : St) (n : Nat) (e : Ending) (w' : World) : Prop :=
  ∃ g cap v, e = .returned (.tuple #[cpuV s.c, ramV (.slice (some ⟨g, 0, none⟩) s.b.mem.length cap), v]) ∧ OwnB w' n (.slice (some ⟨g, 0, none⟩) s.b.mem.length cap) s.b.mem ∧ OwnC w' n v s.b.log ∧ (∀ j, v.ownBlock = some j → j ≠ g) ∧ Below W.heap.size W w'

theorem rowUp {w : World} {base n len k : Nat} {t : TypeId} {v : Value} {L : List Value} (h : w.ownsRow base t k v len L) (hn : ∀ g, v.ownBlock = some g → n ≤ g) : w.ownsRow n t k v len L := by
  obtain ⟨h1, h2⟩ := h
  refine ⟨h1, ?_⟩
  rcases h2 with h2 | ⟨g, cap, cur, rfl, hb, rest⟩
  · exact .inl h2
  · exact .inr ⟨g, cap, cur, rfl, hn g rfl, rest⟩

theorem told_of {W w' : World} {s : St} {n g cap : Nat} {v : Value} (ho : OwnB W 0 (.slice (some ⟨g, 0, none⟩) s.b.mem.length cap) s.b.mem) (hc : OwnC W 0 v s.b.log) (hg : n ≤ g) (hv : ∀ j, v.ownBlock = some j → n ≤ j ∧ j ≠ g) (hW : Below W.heap.size W w') :
    Told W s n (.returned (.tuple #[cpuV s.c, ramV (.slice (some ⟨g, 0, none⟩) s.b.mem.length cap), v])) w' := by
  refine ⟨g, cap, v, rfl, ⟨(ho.below hW).1, rowUp (ho.below hW).2 (fun j ej => ?_)⟩, rowUp (ownC_below hc hW) (fun j ej => (hv j ej).1), fun j ej => (hv j ej).2, hW⟩
  simp only [Value.ownBlock, Option.some.injEq] at ej
  subst ej
  exact hg

set_option maxRecDepth 100000 in
set_option maxHeartbeats 2000000 in
theorem told_some {n : Nat} {w W : World} {P B : Nat} {k : OpK} {s : St} {N : Nat} (p : Play (fun i => n ≤ i) w W P (some B) k s N) :
    Calls Try.prog 27 #[.pointer (some ⟨P, 0, none⟩)] W (Told W s n) := by
  have hPl := p.pl.box.lt
  have al : Below W.heap.size W ((W.alloc (.cells zeroCpu 33)).alloc (.cells #[.slice none 0 0] 34)) := ((Below.refl _ _).alloc (Nat.le_refl _) _).alloc (by simp) _
  have p1 := (p.below al).drew
  have hta : ∀ w : World, (Instr.typeAssert (busV (some B)) 58 80 true).run Try.prog w = .ok (.tuple #[.pointer (some ⟨B, 0, none⟩), .bool true]) w := fun _ => by kernel_rfl
  obtain ⟨g, cap, v, hb, ho, hc, fB, fg, hne, fv⟩ := p.pl.bus.1
  have hB := hb.lt
  have g11 : ((W.alloc (.cells zeroCpu 33)).alloc (.cells #[.slice none 0 0] 34)).cell? ⟨P, 11, none⟩ = some (busV (some B)) := (p.below al).cells.2.2.2.2.2.2.2.2.2.2.2.1
  obtain ⟨g0, g1, g2, g3, g4, g5, g6, g7, g8, g9, g10, e11, g12, g13, g15, gf⟩ := p.cells
  have k0 : W.cell? ⟨B, 0, none⟩ = some (.slice (some ⟨g, 0, none⟩) s.b.mem.length cap) := hb.cell 0 _ rfl
  have k1 : W.cell? ⟨B, 1, none⟩ = some v := hb.cell 1 _ rfl
  have HB := Lib.hid (And.intro ho (And.intro hc (And.intro fg fv)))
  clear ho hc fg fv p1
  go_enter Try.func27, Try.ntmps27
  go_wp2_with fail
  go_region
  all_goals
    go_wp2
    obtain ⟨ho, hc, fg, fv⟩ := HB.out
    refine bodyPost_ret (v := .tuple #[cpuV s.c, ramV (.slice (some ⟨g, 0, none⟩) s.b.mem.length cap), v]) (by simp [results, Try.results27, go_sem]) rfl ?_
    refine told_of ho hc fg.1 (fun j ej => ⟨(fv j ej).1.1, (fv j ej).2.2⟩) ?_
    repeat (any_goals (first | (with_reducible exact Below.refl _ _) | (with_reducible refine Below.drew ?_) | (with_reducible refine Below.setCell ?_ ?_ _) | (with_reducible refine Below.alloc ?_ ?_ _)))
    all_goals (first | (with_reducible exact Nat.le_refl _) | (simp; done) | (simp; omega))

end Go.Proofs.Ytblchdmemhhcbaa
