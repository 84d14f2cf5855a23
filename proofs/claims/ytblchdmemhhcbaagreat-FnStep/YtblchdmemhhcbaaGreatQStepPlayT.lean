/-
  Contracts over the program: an interrupt (serve); the bus that a memory gives (busTo); what is told of a player (told).
-/
import Derived.Test.YtblchdmemhhcbaaGreatQStepRamQ
import Derived.Test.YtblchdmemhhcbaaGreatQStepPlayI
import Derived.Test.YtblchdmemhhcbaaGreatQStepStepA
namespace Go.Proofs.YtblchdmemhhcbaaGreat
set_option linter.unusedVariables false
set_option linter.unusedSimpArgs false
open Go.RowKit

set_option maxRecDepth 100000 in
set_option maxHeartbeats 1000000 in
theorem implFill_no (a : Option Addr) (c addr : Nat) (L : List Nat) (ax : Option Addr) (nx cx : Nat) (w : World) (h : ramN L.length = false ∨ 1024 < nx) (hx : nx ≤ maxLen) :
    Calls Tryz.prog 20 #[ramV (.slice a L.length c), .int .u16 addr, .slice ax nx cx] w fun e w' => e = .returned (ramV (.slice none 0 0)) ∧ Below w.heap.size w w' := by
  have HO := fun w => implOk_any a L.length c w
  have hxx : (nx : Int) ≤ 9223372036854775807 := by unfold maxLen at hx; omega
  cases h1 : ramN L.length with
  | false =>
    rw [h1] at HO
    clear h h1
    go_enter Tryz.func20, Tryz.ntmps20
    go_wp2_with fail
    refine (HO _).mono ?_
    rintro e w1 ⟨rfl, b1⟩
    have bx := boxAt (Boxed.new (w.alloc (.cells #[.slice a L.length c] 30)) 30 (.slice none 0 0)) b1
    rw [World.size_alloc] at bx
    have b2 := bstep (((Below.refl _ _).alloc (Nat.le_refl _) _).alloc (by simp) _) b1
    have hcx := bx.cell
    have hfx := bx.frozen
    have hcx2 := (bx.set (.slice none 0 0)).cell
    go_wp2
    exact bodyPost_ret (v := ramV (.slice none 0 0)) (by simp [results, Tryz.results20, go_sem, hcx2]) rfl ⟨rfl, b2.setCell (by simp) _⟩
  | true =>
    have hbig : (1024 : Int) < (nx : Int) := by rcases h with h | h; rw [h1] at h; cases h; omega
    rw [h1] at HO
    clear h h1
    go_enter Tryz.func20, Tryz.ntmps20
    go_wp2_with fail
    refine (HO _).mono ?_
    rintro e w1 ⟨rfl, b1⟩
    have bx := boxAt (Boxed.new (w.alloc (.cells #[.slice a L.length c] 30)) 30 (.slice none 0 0)) b1
    rw [World.size_alloc] at bx
    have b2 := bstep (((Below.refl _ _).alloc (Nat.le_refl _) _).alloc (by simp) _) b1
    have hcx := bx.cell
    have hfx := bx.frozen
    have hcx2 := (bx.set (.slice none 0 0)).cell
    go_wp2
    exact bodyPost_ret (v := ramV (.slice none 0 0)) (by simp [results, Tryz.results20, go_sem, hcx2]) rfl ⟨rfl, b2.setCell (by simp) _⟩

set_option maxRecDepth 100000 in
set_option maxHeartbeats 4000000 in
theorem implFill_yes (a : Option Addr) (c addr : Nat) (L : List Nat) (ax : Option Addr) (cx : Nat) (X : List Nat) (ha : addr < 65536) (w : World) (hr : RowB w a L) (hx : RowB w ax X) (h : ramN L.length = true) (hX : X.length ≤ 1024) (hc : L.length ≤ c) (hxc : X.length ≤ cx) :
    Calls Tryz.prog 20 #[ramV (.slice a L.length c), .int .u16 addr, .slice ax X.length cx] w fun e w' => ∃ v, e = .returned (ramV v) ∧ OwnB w' w.heap.size v (fillAt L.length addr X 0 L) ∧ Below w.heap.size w w' := by
  have HO := fun w => implOk_any a L.length c w
  rw [h] at HO
  have hn := ramN_pos h
  have HN := fun w => implNew_any (L.length : Int) w
  have hL0 : newL (L.length : Int) = List.replicate L.length 0 := by unfold newL; rw [ramI_nat, if_pos h]; simp
  rw [hL0] at HN
  have hxl : ¬ (1024 : Int) < (X.length : Int) := by omega
  obtain ⟨g, o, rfl, hg, _⟩ := hr.2 (by omega)
  have hgx : 0 < X.length → ∀ b, ax = some b → b.block < w.heap.size := fun h0 b eb => by
    obtain ⟨gx, ox, e, hl, _⟩ := hx.2 h0
    rw [e] at eb
    simp only [Option.some.injEq] at eb
    rw [← eb]; exact hl
  obtain ⟨n, hnL⟩ : ∃ n, L.length = n := ⟨_, rfl⟩
  rw [hnL] at HO HN h hn hc ⊢
  have HL := Lib.hid hnL
  have HR := Lib.hid hr
  have HX := Lib.hid hx
  have HRN := Lib.hid h
  have HGX := Lib.hid hgx
  clear hr hx hL0 h hnL hgx
  go_enter Tryz.func20, Tryz.ntmps20
  go_wp2_with fail
  refine (HO _).mono ?_
  rintro e w1 ⟨rfl, d1⟩
  have p3 := ((BoxN.new w 30 #[.slice (some ⟨g, o, none⟩) n c]).below ((Below.refl _ _).alloc (Nat.le_refl _) (.cells #[.slice none 0 0] 30))).below d1
  have p6 := (BoxN.new (w.alloc (.cells #[.slice (some ⟨g, o, none⟩) n c] 30)) 30 #[.slice none 0 0]).below d1
  rw [World.size_alloc] at p6
  have b1 := bstep (((Below.refl _ w).alloc (Nat.le_refl _) _).alloc (by simp) _) d1
  have hs1 := p6.lt
  clear d1
  have c3 := p3.cell 0 _ rfl
  go_wp2_with fail
  refine (HN _).mono ?_
  rintro e w2 ⟨v, rfl, o2, d2⟩
  obtain ⟨g2, c2, rfl, _⟩ := o2.cells (by rw [List.length_replicate]; omega)
  rw [List.length_replicate] at o2 ⊢
  have hg2 := (World.ownsRow.lt o2.2) g2 rfl
  have b2 := bstep b1 d2
  have q3 := (p3.below d2).below ((Below.refl _ _).alloc (Nat.le_refl _) (.cells #[.slice (some ⟨g2, 0, none⟩) n c2] 30))
  have q6 := (p6.below d2).below ((Below.refl _ _).alloc (Nat.le_refl _) (.cells #[.slice (some ⟨g2, 0, none⟩) n c2] 30))
  have q7 := BoxN.new w2 30 #[.slice (some ⟨g2, 0, none⟩) n c2]
  have b3 := b2.alloc (Nat.le_trans b2.size (Nat.le_refl _)) (.cells #[.slice (some ⟨g2, 0, none⟩) n c2] 30)
  have o3 := o2.below ((Below.refl _ _).alloc (Nat.le_refl _) (.cells #[.slice (some ⟨g2, 0, none⟩) n c2] 30))
  have HR3 := Lib.hid (HR.out.below b3)
  have HX3 := Lib.hid (HX.out.below b3)
  have HO3 := Lib.hid o3
  clear d2 p3 p6 b1 b2 o2 o3 c3
  have c3 := q3.cell 0 _ rfl
  have c7 := q7.cell 0 _ rfl
  go_wp2_with fail
  refine (put_zero g2 n c2 w1.heap.size _ (some ⟨g, o, none⟩) c L _ HRN.out (List.length_replicate ..) HO3.out HR3.out (fun _ b eb => by simp only [Option.some.injEq] at eb; rw [← eb]; show g ≠ g2; omega) HL.out hc).mono ?_
  rintro e w4 ⟨rfl, o4, k4⟩
  have s4 := Span.of_grown k4 (Nat.le_refl g2) (Nat.lt_succ_self g2)
  have r6 := q6.span s4 (by omega)
  have r7 := q7.span s4 (by omega)
  have b4 := b3.trans (s4.below (by omega) (by have := b3.size; omega))
  have HX4 := Lib.hid (HX3.out.grownBut k4 (fun h0 b eb => by have := HGX.out h0 b eb; omega))
  have HO4 := Lib.hid o4
  clear q3 q6 q7 b3 c3 c7 k4 s4 o4 HX3 HO3 HR3
  have c7 := r7.cell 0 _ rfl
  go_wp2_with fail
  refine (put_any g2 n c2 w1.heap.size addr L ax cx X _ ha HRN.out HL.out HO4.out HX4.out (fun h0 b eb => by have := HGX.out h0 b eb; omega) (by omega) hxc).mono ?_
  rintro e w5 ⟨rfl, o5, k5⟩
  have s5 := Span.of_grown k5 (Nat.le_refl g2) (Nat.lt_succ_self g2)
  have t6 := r6.span s5 (by omega)
  have t7 := r7.span s5 (by omega)
  have b5 := b4.trans (s5.below (by omega) (by have := b4.size; omega))
  have HO5 := Lib.hid o5
  clear r6 r7 b4 c7 k5 s5 o5 HX4 HO4
  have c7 := t7.cell 0 _ rfl
  have c6 := t6.cell 0 _ rfl
  have f6 := t6.frozen 0
  have c62 := (t6.set 0 (.slice (some ⟨g2, 0, none⟩) n c2)).cell 0 (.slice (some ⟨g2, 0, none⟩) n c2) rfl
  go_wp2
  exact bodyPost_ret (v := ramV (.slice (some ⟨g2, 0, none⟩) n c2)) (by simp [results, Tryz.results20, go_sem, c62]) rfl ⟨_, rfl, ownB_ne (OwnB.base HO5.out (by omega)) (grownB_set _ _ _) (fun q hq => by simp [Value.ownBlock] at hq; omega), b5.setCell (by simp) _⟩

theorem implFill_any (a : Option Addr) (c addr : Nat) (L : List Nat) (ax : Option Addr) (cx : Nat) (X : List Nat) (ha : addr < 65536) (w : World) (hr : RowB w a L) (hx : RowB w ax X) (hX : X.length ≤ maxLen) (hc : L.length ≤ c) (hxc : X.length ≤ cx) :
    Calls Tryz.prog 20 #[ramV (.slice a L.length c), .int .u16 addr, .slice ax X.length cx] w fun e w' => ∃ v, e = .returned (ramV v) ∧ OwnB w' w.heap.size v (fillL L addr X) ∧ Below w.heap.size w w' := by
  by_cases h : ramN L.length = true ∧ X.length ≤ 1024
  · have e : fillL L addr X = fillAt L.length addr X 0 L := if_pos h
    rw [e]
    exact implFill_yes a c addr L ax cx X ha w hr hx h.1 h.2 hc hxc
  · have e : fillL L addr X = [] := if_neg h
    rw [e]
    refine (implFill_no a c addr L ax X.length cx w (by
      cases hn : ramN L.length with
      | false => exact .inl rfl
      | true => exact .inr (by rw [hn] at h; simp at h; exact h)) hX).mono ?_
    rintro e w' ⟨rfl, hb⟩
    exact ⟨_, rfl, ownNil _ _, hb⟩

end Go.Proofs.YtblchdmemhhcbaaGreat

namespace Go.Proofs.YtblchdmemhhcbaaGreat
set_option linter.unusedVariables false
set_option linter.unusedSimpArgs false
open Go.RowKit

theorem busTo_no (a : Option Addr) (n c : Nat) (h : ramN n = false) (w : World) :
    Calls Tryz.prog 36 #[ramV (.slice a n c)] w fun e w' => e = .returned (.iface 102 (.agg #[])) ∧ Below w.heap.size w w' := by
  have HO := fun w => implOk_any a n c w
  rw [h] at HO
  clear h
  go_enter Tryz.func36, Tryz.ntmps36
  go_wp2_with fail
  refine (HO _).mono ?_
  rintro e w1 ⟨rfl, d1⟩
  have b1 := bstep ((Below.refl _ w).alloc (Nat.le_refl _) _) d1
  go_wp2
  go_ret
  exact ⟨rfl, b1⟩

set_option maxRecDepth 100000 in
theorem busTo_yes (a : Option Addr) (c : Nat) (L : List Nat) (h : ramN L.length = true) (w : World) (hr : RowB w a L) (hc : L.length ≤ c) :
    Calls Tryz.prog 36 #[ramV (.slice a L.length c)] w fun e w' => ∃ B, e = .returned (.iface 103 (.pointer (some ⟨B, 0, none⟩))) ∧ WBusAt w' (fun i => w.heap.size ≤ i) B ⟨L, []⟩ ∧ Below w.heap.size w w' := by
  have HO := fun w => implOk_any a L.length c w
  rw [h] at HO
  have hn := ramN_pos h
  have eL : fillL L 0 [] = L := by
    unfold fillL
    rw [if_pos ⟨h, by simp⟩]
    rfl
  have HF := fun (W : World) (hW : RowB W a L) => implFill_any a c 0 L none 0 [] (by omega) W hW (RowB.none W none) (by simp) hc (by simp)
  rw [eL] at HF
  have HR := Lib.hid hr
  have HL := Lib.hid h
  clear h hr eL
  have q := BoxN.new w 30 #[.slice a L.length c]
  go_enter Tryz.func36, Tryz.ntmps36
  go_wp2_with fail
  refine (HO _).mono ?_
  rintro e w1 ⟨rfl, d1⟩
  have b1 := bstep ((Below.refl _ w).alloc (Nat.le_refl _) _) d1
  have q1 := q.below d1
  have c1 : w1.cell? ⟨w.heap.size, 0, none⟩ = some (.slice a L.length c) := q1.cell 0 _ rfl
  clear d1 q HO
  go_wp2_with fail
  refine (HF _ (RowB.below HR.out b1)).mono ?_
  rintro e w2 ⟨v, rfl, o2, d2⟩
  have b2 := bstep b1 d2
  clear c1
  obtain ⟨g, cap, rfl, _⟩ := o2.cells (by omega)
  have hg := (World.ownsRow.lt o2.2) g rfl
  go_wp2
  go_ret
  have x := BoxN.new w2 105 #[.slice (some ⟨g, 0, none⟩) L.length cap, .slice none 0 0]
  have al : Below w2.heap.size w2 (w2.alloc (.cells #[.slice (some ⟨g, 0, none⟩) L.length cap, .slice none 0 0] 105)) := (Below.refl _ _).alloc (Nat.le_refl _) _
  refine ⟨w2.heap.size, rfl, ⟨g, cap, .slice none 0 0, x, ?_, World.ownsRow_nil _ _ _ _, ?_, ?_, ?_, fun k ek => by simp [Value.ownBlock] at ek⟩, bstep b2 al⟩
  · exact (OwnB.base o2 (Nat.zero_le _)).below al
  · show w.heap.size ≤ w2.heap.size
    exact b2.size
  · show w.heap.size ≤ g
    have := b1.size
    omega
  · omega


set_option maxRecDepth 100000 in
theorem told_none {F : Nat → Prop} {w W : World} {P : Nat} {k : OpK} {s : St} {N : Nat} (p : Play F w W P none k s N) :
    Calls Tryz.prog 40 #[.pointer (some ⟨P, 0, none⟩)] W fun e w' => e = .returned (.tuple #[cpuV cpu0, ramV (.slice none 0 0), .slice none 0 0]) ∧ Below W.heap.size W w' := by
  have al : Below W.heap.size W ((W.alloc (.cells zeroCpu 28)).alloc (.cells #[.slice none 0 0] 30)) := ((Below.refl _ _).alloc (Nat.le_refl _) _).alloc (by simp) _
  have p1 := p.below al
  have hta : ∀ w : World, (Instr.typeAssert (busV none) 67 103 true).run Tryz.prog w = .ok (.tuple #[.pointer none, .bool false]) w := fun _ => by kernel_rfl
  have g11 : ((W.alloc (.cells zeroCpu 28)).alloc (.cells #[.slice none 0 0] 30)).cell? ⟨P, 11, none⟩ = some (busV none) := p1.cells.2.2.2.2.2.2.2.2.2.2.2.1
  go_enter Tryz.func40, Tryz.ntmps40
  go_wp2
  refine bodyPost_ret (v := .tuple #[cpuV cpu0, ramV (.slice none 0 0), .slice none 0 0]) (by simp [results, Tryz.results40, go_sem, cpu0]) rfl ⟨rfl, ?_⟩
  repeat (any_goals (first | (with_reducible exact al) | (with_reducible exact Below.refl _ _) | (with_reducible refine Below.drew ?_) | (with_reducible refine Below.setCell ?_ ?_ _) | (with_reducible refine Below.alloc ?_ ?_ _)))
  all_goals (first | (with_reducible exact Nat.le_refl _) | (simp; done) | (simp; omega))

/-- What is told of a player at a wired bus. -/
def Told (W : World) (s : St) (n : Nat) (e : Ending) (w' : World) : Prop :=
  ∃ g cap v, e = .returned (.tuple #[cpuV s.c, ramV (.slice (some ⟨g, 0, none⟩) s.b.mem.length cap), v]) ∧ OwnB w' n (.slice (some ⟨g, 0, none⟩) s.b.mem.length cap) s.b.mem ∧ OwnC w' n v s.b.log ∧ (∀ j, v.ownBlock = some j → j ≠ g) ∧ Below W.heap.size W w'

theorem rowUp {w : World} {base n len k : Nat} {t : TypeId} {v : Value} {L : List Value} (h : w.ownsRow base t k v len L) (hn : ∀ g, v.ownBlock = some g → n ≤ g) : w.ownsRow n t k v len L := by
  obtain ⟨h1, h2⟩ := h
  refine ⟨h1, ?_⟩
  rcases h2 with h2 | ⟨g, cap, cur, rfl, hb, rest⟩
  · exact .inl h2
  · exact .inr ⟨g, cap, cur, rfl, hn g rfl, rest⟩

theorem told_of {W w' : World} {s : St} {n g cap : Nat} {v : Value} (ho : OwnB W 0 (.slice (some ⟨g, 0, none⟩) s.b.mem.length cap) s.b.mem) (hc : OwnC W 0 v s.b.log) (hg : n ≤ g) (hv : ∀ j, v.ownBlock = some j → n ≤ j ∧ j ≠ g) (hW : Below W.heap.size W w') :
    Told W s n (.returned (.tuple #[cpuV s.c, ramV (.slice (some ⟨g, 0, none⟩) s.b.mem.length cap), v])) w' := by
  refine ⟨g, cap, v, rfl, ⟨(ho.below hW).1, rowUp (ho.below hW).2 (fun j ej => ?_)⟩, rowUp (ownC_below hc hW) (fun j ej => (hv j ej).1), fun j ej => (hv j ej).2, hW⟩
  simp only [Value.ownBlock, Option.some.injEq] at ej
  subst ej
  exact hg

set_option maxRecDepth 100000 in
set_option maxHeartbeats 2000000 in
theorem told_some {n : Nat} {w W : World} {P B : Nat} {k : OpK} {s : St} {N : Nat} (p : Play (fun i => n ≤ i) w W P (some B) k s N) :
    Calls Tryz.prog 40 #[.pointer (some ⟨P, 0, none⟩)] W (Told W s n) := by
  have hPl := p.pl.box.lt
  have al : Below W.heap.size W ((W.alloc (.cells zeroCpu 28)).alloc (.cells #[.slice none 0 0] 30)) := ((Below.refl _ _).alloc (Nat.le_refl _) _).alloc (by simp) _
  have p1 := (p.below al).drew
  have hta : ∀ w : World, (Instr.typeAssert (busV (some B)) 67 103 true).run Tryz.prog w = .ok (.tuple #[.pointer (some ⟨B, 0, none⟩), .bool true]) w := fun _ => by kernel_rfl
  obtain ⟨g, cap, v, hb, ho, hc, fB, fg, hne, fv⟩ := p.pl.bus.1
  have hB := hb.lt
  have g11 : ((W.alloc (.cells zeroCpu 28)).alloc (.cells #[.slice none 0 0] 30)).cell? ⟨P, 11, none⟩ = some (busV (some B)) := (p.below al).cells.2.2.2.2.2.2.2.2.2.2.2.1
  obtain ⟨g0, g1, g2, g3, g4, g5, g6, g7, g8, g9, g10, e11, g12, g13, g15, gf⟩ := p.cells
  have k0 : W.cell? ⟨B, 0, none⟩ = some (.slice (some ⟨g, 0, none⟩) s.b.mem.length cap) := hb.cell 0 _ rfl
  have k1 : W.cell? ⟨B, 1, none⟩ = some v := hb.cell 1 _ rfl
  have HB := Lib.hid (And.intro ho (And.intro hc (And.intro fg fv)))
  clear ho hc fg fv p1
  go_enter Tryz.func40, Tryz.ntmps40
  go_wp2_with fail
  go_region
  all_goals
    go_wp2
    obtain ⟨ho, hc, fg, fv⟩ := HB.out
    refine bodyPost_ret (v := .tuple #[cpuV s.c, ramV (.slice (some ⟨g, 0, none⟩) s.b.mem.length cap), v]) (by simp [results, Tryz.results40, go_sem]) rfl ?_
    refine told_of ho hc fg.1 (fun j ej => ⟨(fv j ej).1.1, (fv j ej).2.2⟩) ?_
    repeat (any_goals (first | (with_reducible exact Below.refl _ _) | (with_reducible refine Below.drew ?_) | (with_reducible refine Below.setCell ?_ ?_ _) | (with_reducible refine Below.alloc ?_ ?_ _)))
    all_goals (first | (with_reducible exact Nat.le_refl _) | (simp; done) | (simp; omega))

end Go.Proofs.YtblchdmemhhcbaaGreat
