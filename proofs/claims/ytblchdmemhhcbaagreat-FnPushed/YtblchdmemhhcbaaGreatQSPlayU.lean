/-
  Where a player begins: its box, filled behind its bus, or ahead of it.
-/
import Derived.Test.YtblchdmemhhcbaaGreatQSRamQ
import Derived.Test.YtblchdmemhhcbaaGreatQSPlayI
import Derived.Test.YtblchdmemhhcbaaGreatQSStepA
namespace Go.Proofs.YtblchdmemhhcbaaGreat
set_option linter.unusedVariables false
set_option linter.unusedSimpArgs false
open Go.RowKit

set_option maxRecDepth 100000 in
set_option maxHeartbeats 1000000 in
theorem implFill_no (a : Option Addr) (c addr : Nat) (L : List Nat) (ax : Option Addr) (nx cx : Nat) (w : World) (h : ramN L.length = false ∨ 1024 < nx) (hx : nx ≤ maxLen) :
    Calls Tryz.prog 20 #[ramV (.slice a L.length c), .int .u16 addr, .slice ax nx cx] w fun e w' => e = .returned (ramV (.slice none 0 0)) ∧ Below w.heap.size w w' := by
  have HO := fun w => implOk_any a L.length c w
  have hxx : (nx : Int) ≤ 9223372036854775807 := by unfold maxLen at hx; omega
  cases h1 : ramN L.length with
  | false =>
    rw [h1] at HO
    clear h h1
    go_enter Tryz.func20, Tryz.ntmps20
    go_wp2_with fail
    refine (HO _).mono ?_
    rintro e w1 ⟨rfl, b1⟩
    have bx := boxAt (Boxed.new (w.alloc (.cells #[.slice a L.length c] 30)) 30 (.slice none 0 0)) b1
    rw [World.size_alloc] at bx
    have b2 := bstep (((Below.refl _ _).alloc (Nat.le_refl _) _).alloc (by simp) _) b1
    have hcx := bx.cell
    have hfx := bx.frozen
    have hcx2 := (bx.set (.slice none 0 0)).cell
    go_wp2
    exact bodyPost_ret (v := ramV (.slice none 0 0)) (by simp [results, Tryz.results20, go_sem, hcx2]) rfl ⟨rfl, b2.setCell (by simp) _⟩
  | true =>
    have hbig : (1024 : Int) < (nx : Int) := by rcases h with h | h; rw [h1] at h; cases h; omega
    rw [h1] at HO
    clear h h1
    go_enter Tryz.func20, Tryz.ntmps20
    go_wp2_with fail
    refine (HO _).mono ?_
    rintro e w1 ⟨rfl, b1⟩
    have bx := boxAt (Boxed.new (w.alloc (.cells #[.slice a L.length c] 30)) 30 (.slice none 0 0)) b1
    rw [World.size_alloc] at bx
    have b2 := bstep (((Below.refl _ _).alloc (Nat.le_refl _) _).alloc (by simp) _) b1
    have hcx := bx.cell
    have hfx := bx.frozen
    have hcx2 := (bx.set (.slice none 0 0)).cell
    go_wp2
    exact bodyPost_ret (v := ramV (.slice none 0 0)) (by simp [results, Tryz.results20, go_sem, hcx2]) rfl ⟨rfl, b2.setCell (by simp) _⟩

set_option maxRecDepth 100000 in
set_option maxHeartbeats 4000000 in
theorem implFill_yes (a : Option Addr) (c addr : Nat) (L : List Nat) (ax : Option Addr) (cx : Nat) (X : List Nat) (ha : addr < 65536) (w : World) (hr : RowB w a L) (hx : RowB w ax X) (h : ramN L.length = true) (hX : X.length ≤ 1024) (hc : L.length ≤ c) (hxc : X.length ≤ cx) :
    Calls Tryz.prog 20 #[ramV (.slice a L.length c), .int .u16 addr, .slice ax X.length cx] w fun e w' => ∃ v, e = .returned (ramV v) ∧ OwnB w' w.heap.size v (fillAt L.length addr X 0 L) ∧ Below w.heap.size w w' := by
  have HO := fun w => implOk_any a L.length c w
  rw [h] at HO
  have hn := ramN_pos h
  have HN := fun w => implNew_any (L.length : Int) w
  have hL0 : newL (L.length : Int) = List.replicate L.length 0 := by unfold newL; rw [ramI_nat, if_pos h]; simp
  rw [hL0] at HN
  have hxl : ¬ (1024 : Int) < (X.length : Int) := by omega
  obtain ⟨g, o, rfl, hg, _⟩ := hr.2 (by omega)
  have hgx : 0 < X.length → ∀ b, ax = some b → b.block < w.heap.size := fun h0 b eb => by
    obtain ⟨gx, ox, e, hl, _⟩ := hx.2 h0
    rw [e] at eb
    simp only [Option.some.injEq] at eb
    rw [← eb]; exact hl
  obtain ⟨n, hnL⟩ : ∃ n, L.length = n := ⟨_, rfl⟩
  rw [hnL] at HO HN h hn hc ⊢
  have HL := Lib.hid hnL
  have HR := Lib.hid hr
  have HX := Lib.hid hx
  have HRN := Lib.hid h
  have HGX := Lib.hid hgx
  clear hr hx hL0 h hnL hgx
  go_enter Tryz.func20, Tryz.ntmps20
  go_wp2_with fail
  refine (HO _).mono ?_
  rintro e w1 ⟨rfl, d1⟩
  have p3 := ((BoxN.new w 30 #[.slice (some ⟨g, o, none⟩) n c]).below ((Below.refl _ _).alloc (Nat.le_refl _) (.cells #[.slice none 0 0] 30))).below d1
  have p6 := (BoxN.new (w.alloc (.cells #[.slice (some ⟨g, o, none⟩) n c] 30)) 30 #[.slice none 0 0]).below d1
  rw [World.size_alloc] at p6
  have b1 := bstep (((Below.refl _ w).alloc (Nat.le_refl _) _).alloc (by simp) _) d1
  have hs1 := p6.lt
  clear d1
  have c3 := p3.cell 0 _ rfl
  go_wp2_with fail
  refine (HN _).mono ?_
  rintro e w2 ⟨v, rfl, o2, d2⟩
  obtain ⟨g2, c2, rfl, _⟩ := o2.cells (by rw [List.length_replicate]; omega)
  rw [List.length_replicate] at o2 ⊢
  have hg2 := (World.ownsRow.lt o2.2) g2 rfl
  have b2 := bstep b1 d2
  have q3 := (p3.below d2).below ((Below.refl _ _).alloc (Nat.le_refl _) (.cells #[.slice (some ⟨g2, 0, none⟩) n c2] 30))
  have q6 := (p6.below d2).below ((Below.refl _ _).alloc (Nat.le_refl _) (.cells #[.slice (some ⟨g2, 0, none⟩) n c2] 30))
  have q7 := BoxN.new w2 30 #[.slice (some ⟨g2, 0, none⟩) n c2]
  have b3 := b2.alloc (Nat.le_trans b2.size (Nat.le_refl _)) (.cells #[.slice (some ⟨g2, 0, none⟩) n c2] 30)
  have o3 := o2.below ((Below.refl _ _).alloc (Nat.le_refl _) (.cells #[.slice (some ⟨g2, 0, none⟩) n c2] 30))
  have HR3 := Lib.hid (HR.out.below b3)
  have HX3 := Lib.hid (HX.out.below b3)
  have HO3 := Lib.hid o3
  clear d2 p3 p6 b1 b2 o2 o3 c3
  have c3 := q3.cell 0 _ rfl
  have c7 := q7.cell 0 _ rfl
  go_wp2_with fail
  refine (put_zero g2 n c2 w1.heap.size _ (some ⟨g, o, none⟩) c L _ HRN.out (List.length_replicate ..) HO3.out HR3.out (fun _ b eb => by simp only [Option.some.injEq] at eb; rw [← eb]; show g ≠ g2; omega) HL.out hc).mono ?_
  rintro e w4 ⟨rfl, o4, k4⟩
  have s4 := Span.of_grown k4 (Nat.le_refl g2) (Nat.lt_succ_self g2)
  have r6 := q6.span s4 (by omega)
  have r7 := q7.span s4 (by omega)
  have b4 := b3.trans (s4.below (by omega) (by have := b3.size; omega))
  have HX4 := Lib.hid (HX3.out.grownBut k4 (fun h0 b eb => by have := HGX.out h0 b eb; omega))
  have HO4 := Lib.hid o4
  clear q3 q6 q7 b3 c3 c7 k4 s4 o4 HX3 HO3 HR3
  have c7 := r7.cell 0 _ rfl
  go_wp2_with fail
  refine (put_any g2 n c2 w1.heap.size addr L ax cx X _ ha HRN.out HL.out HO4.out HX4.out (fun h0 b eb => by have := HGX.out h0 b eb; omega) (by omega) hxc).mono ?_
  rintro e w5 ⟨rfl, o5, k5⟩
  have s5 := Span.of_grown k5 (Nat.le_refl g2) (Nat.lt_succ_self g2)
  have t6 := r6.span s5 (by omega)
  have t7 := r7.span s5 (by omega)
  have b5 := b4.trans (s5.below (by omega) (by have := b4.size; omega))
  have HO5 := Lib.hid o5
  clear r6 r7 b4 c7 k5 s5 o5 HX4 HO4
  have c7 := t7.cell 0 _ rfl
  have c6 := t6.cell 0 _ rfl
  have f6 := t6.frozen 0
  have c62 := (t6.set 0 (.slice (some ⟨g2, 0, none⟩) n c2)).cell 0 (.slice (some ⟨g2, 0, none⟩) n c2) rfl
  go_wp2
  exact bodyPost_ret (v := ramV (.slice (some ⟨g2, 0, none⟩) n c2)) (by simp [results, Tryz.results20, go_sem, c62]) rfl ⟨_, rfl, ownB_ne (OwnB.base HO5.out (by omega)) (grownB_set _ _ _) (fun q hq => by simp [Value.ownBlock] at hq; omega), b5.setCell (by simp) _⟩

theorem implFill_any (a : Option Addr) (c addr : Nat) (L : List Nat) (ax : Option Addr) (cx : Nat) (X : List Nat) (ha : addr < 65536) (w : World) (hr : RowB w a L) (hx : RowB w ax X) (hX : X.length ≤ maxLen) (hc : L.length ≤ c) (hxc : X.length ≤ cx) :
    Calls Tryz.prog 20 #[ramV (.slice a L.length c), .int .u16 addr, .slice ax X.length cx] w fun e w' => ∃ v, e = .returned (ramV v) ∧ OwnB w' w.heap.size v (fillL L addr X) ∧ Below w.heap.size w w' := by
  by_cases h : ramN L.length = true ∧ X.length ≤ 1024
  · have e : fillL L addr X = fillAt L.length addr X 0 L := if_pos h
    rw [e]
    exact implFill_yes a c addr L ax cx X ha w hr hx h.1 h.2 hc hxc
  · have e : fillL L addr X = [] := if_neg h
    rw [e]
    refine (implFill_no a c addr L ax X.length cx w (by
      cases hn : ramN L.length with
      | false => exact .inl rfl
      | true => exact .inr (by rw [hn] at h; simp at h; exact h)) hX).mono ?_
    rintro e w' ⟨rfl, hb⟩
    exact ⟨_, rfl, ownNil _ _, hb⟩

theorem pokeL_fill (L : List Nat) (addr b : Nat) (ha : addr < 65536) : pokeL L addr b = fillL L addr [b] := by
  unfold pokeL fillL
  cases h : ramN L.length with
  | false => simp
  | true => simp [fillAt, Nat.mod_eq_of_lt ha]

set_option maxRecDepth 100000 in
theorem implPoke_any (a : Option Addr) (c addr b : Nat) (L : List Nat) (ha : addr < 65536) (hb : b < 256) (w : World) (hc : L.length ≤ c) (hr : RowB w a L) :
    Calls Tryz.prog 18 #[ramV (.slice a L.length c), .int .u16 addr, .int .u8 b] w fun e w' => ∃ v, e = .returned (ramV v) ∧ OwnB w' w.heap.size v (pokeL L addr b) ∧ Below w.heap.size w w' := by
  rw [pokeL_fill L addr b ha]
  have B1 : Below w.heap.size w ((w.alloc (.cells #[.slice a L.length c] 30)).alloc (.cells #[.slice none 0 0] 30)) := ((Below.refl _ _).alloc (Nat.le_refl _) _).alloc (by simp) _
  have HR := Lib.hid (hr.below (B1.alloc (by simp; omega) (.cells #[.int .u8 (b : Int)] 5)))
  have HX : RowB (((w.alloc (.cells #[.slice a L.length c] 30)).alloc (.cells #[.slice none 0 0] 30)).alloc (.cells #[.int .u8 (b : Int)] 5)) (some ⟨w.heap.size + 1 + 1, 0, none⟩) [b] := by
    refine ⟨fun i hi => ?_, fun _ => ⟨w.heap.size + 1 + 1, 0, rfl, by simp, fun i hi => ?_⟩⟩
    · obtain rfl : i = 0 := by simpa using hi
      exact hb
    · obtain rfl : i = 0 := by simpa using hi
      rw [World.cell?_alloc_at _ _ _ _ (by simp)]
      rfl
  have HF := implFill_any a c addr L (some ⟨w.heap.size + 1 + 1, 0, none⟩) 1 [b] ha _ HR.out HX (by unfold maxLen; simp) hc (by simp)
  have p6 := (BoxN.new (w.alloc (.cells #[.slice a L.length c] 30)) 30 #[.slice none 0 0]).below ((Below.refl _ _).alloc (Nat.le_refl _) (.cells #[.int .u8 (b : Int)] 5))
  rw [World.size_alloc] at p6
  clear hr HX
  go_enter Tryz.func18, Tryz.ntmps18
  go_wp2_with fail
  refine HF.mono ?_
  rintro e w1 ⟨v, rfl, o1, d1⟩
  have b2 := bstep (B1.alloc (by simp; omega) _) d1
  have q6 := p6.below d1
  have hgv : ∀ k, v.ownBlock = some k → w.heap.size + 1 < k := fun k ek => by
    have := ((World.ownsRow.lt o1.2) k ek).1
    simp only [World.size_alloc] at this
    omega
  have HO1 := Lib.hid (OwnB.base (b' := w.heap.size) o1 (by simp only [World.size_alloc]; omega))
  obtain ⟨av, cv, ev, _⟩ := (SegB.of o1).len
  obtain ⟨nv, hnv⟩ : ∃ nv, (fillL L addr [b]).length = nv := ⟨_, rfl⟩
  rw [hnv] at ev
  clear p6 d1 HF o1 B1 hnv
  subst ev
  have c6 := q6.cell 0 _ rfl
  have f6 := q6.frozen 0
  have c62 := (q6.set 0 (.slice av nv cv)).cell 0 (.slice av nv cv) rfl
  go_wp2
  exact bodyPost_ret (v := ramV (.slice av nv cv)) (by simp [results, Tryz.results18, go_sem, c62]) rfl ⟨_, rfl, ownB_ne HO1.out (grownB_set _ _ _) (fun q hq => by have := hgv q hq; omega), b2.setCell (by simp) _⟩

theorem implPoke : ImplPoke := fun a c addr b L w ha hb _ hc hr => implPoke_any a c addr b L ha hb w hc hr

theorem implFill : ImplFill := fun a c addr L ax cx X w ha _ hc hX hxc hr hx => implFill_any a c addr L ax cx X ha w hr hx (by unfold maxLen; omega) hc hxc

end Go.Proofs.YtblchdmemhhcbaaGreat

namespace Go.Proofs.YtblchdmemhhcbaaGreat
set_option linter.unusedVariables false
set_option linter.unusedSimpArgs false
open Go.RowKit

set_option maxRecDepth 100000 in
theorem Play.serve_true {F : Nat → Prop} {w W : World} {P : Nat} {o : Option Nat} {k : OpK} {s : St} {N : Nat} (p : Play F w W P o k s N) (hN : N ≤ 76) {s' : St} (hs : s.idle.idle.inter 65530 false = s') :
    Calls Tryz.prog 51 #[.pointer (some ⟨P, 0, none⟩), .bool true] W fun e w' => e = .returned (.tuple #[]) ∧ Play F w w' P o k s' (N + 7) := by
  obtain ⟨hA, hX, hY, hS, hP⟩ := p.pl.ok
  obtain ⟨s1, hs1⟩ : ∃ r_, s.idle = r_ := ⟨_, rfl⟩
  obtain ⟨s2, hs2⟩ : ∃ r_, s1.idle = r_ := ⟨_, rfl⟩
  rw [hs1, hs2] at hs
  have HS := Lib.hid hs
  clear hs
  have Hs1 := Lib.hid hs1
  have Hs2 := Lib.hid hs2
  clear hs1 hs2
  go_enter Tryz.func51, Tryz.ntmps51
  go_wp2_with fail
  refine (p.idle (by omega) Hs1.out).mono ?_
  rintro e w1 ⟨rfl, p2⟩
  go_wp2_with fail
  refine (p2.idle (by omega) Hs2.out).mono ?_
  rintro e w3 ⟨rfl, p4⟩
  clear p2
  go_wp2_with fail
  refine (p4.inter 65530 (by omega) false (by omega) HS.out).mono ?_
  rintro e w5 ⟨rfl, p6⟩
  clear p4
  go_wp2
  (try simp only [Exit.inBlock, Exit.then])
  first | refine bodyPost_ret (results_none rfl _ _ _) rfl ?_ | refine bodyPost_end (results_none rfl _ _ _) rfl ?_
  refine ⟨rfl, ?_⟩
  exact p6

set_option maxRecDepth 100000 in
theorem Play.serve_false {F : Nat → Prop} {w W : World} {P : Nat} {o : Option Nat} {k : OpK} {s : St} {N : Nat} (p : Play F w W P o k s N) (hN : N ≤ 76) {s' : St} (hs : s.idle.idle.inter 65534 false = s') :
    Calls Tryz.prog 51 #[.pointer (some ⟨P, 0, none⟩), .bool false] W fun e w' => e = .returned (.tuple #[]) ∧ Play F w w' P o k s' (N + 7) := by
  obtain ⟨hA, hX, hY, hS, hP⟩ := p.pl.ok
  obtain ⟨s1, hs1⟩ : ∃ r_, s.idle = r_ := ⟨_, rfl⟩
  obtain ⟨s2, hs2⟩ : ∃ r_, s1.idle = r_ := ⟨_, rfl⟩
  rw [hs1, hs2] at hs
  have HS := Lib.hid hs
  clear hs
  have Hs1 := Lib.hid hs1
  have Hs2 := Lib.hid hs2
  clear hs1 hs2
  go_enter Tryz.func51, Tryz.ntmps51
  go_wp2_with fail
  refine (p.idle (by omega) Hs1.out).mono ?_
  rintro e w1 ⟨rfl, p2⟩
  go_wp2_with fail
  refine (p2.idle (by omega) Hs2.out).mono ?_
  rintro e w3 ⟨rfl, p4⟩
  clear p2
  go_wp2_with fail
  refine (p4.inter 65534 (by omega) false (by omega) HS.out).mono ?_
  rintro e w5 ⟨rfl, p6⟩
  clear p4
  go_wp2
  (try simp only [Exit.inBlock, Exit.then])
  first | refine bodyPost_ret (results_none rfl _ _ _) rfl ?_ | refine bodyPost_end (results_none rfl _ _ _) rfl ?_
  refine ⟨rfl, ?_⟩
  exact p6

theorem busTo_no (a : Option Addr) (n c : Nat) (h : ramN n = false) (w : World) :
    Calls Tryz.prog 36 #[ramV (.slice a n c)] w fun e w' => e = .returned (.iface 102 (.agg #[])) ∧ Below w.heap.size w w' := by
  have HO := fun w => implOk_any a n c w
  rw [h] at HO
  clear h
  go_enter Tryz.func36, Tryz.ntmps36
  go_wp2_with fail
  refine (HO _).mono ?_
  rintro e w1 ⟨rfl, d1⟩
  have b1 := bstep ((Below.refl _ w).alloc (Nat.le_refl _) _) d1
  go_wp2
  go_ret
  exact ⟨rfl, b1⟩

set_option maxRecDepth 100000 in
theorem busTo_yes (a : Option Addr) (c : Nat) (L : List Nat) (h : ramN L.length = true) (w : World) (hr : RowB w a L) (hc : L.length ≤ c) :
    Calls Tryz.prog 36 #[ramV (.slice a L.length c)] w fun e w' => ∃ B, e = .returned (.iface 103 (.pointer (some ⟨B, 0, none⟩))) ∧ WBusAt w' (fun i => w.heap.size ≤ i) B ⟨L, []⟩ ∧ Below w.heap.size w w' := by
  have HO := fun w => implOk_any a L.length c w
  rw [h] at HO
  have hn := ramN_pos h
  have eL : fillL L 0 [] = L := by
    unfold fillL
    rw [if_pos ⟨h, by simp⟩]
    rfl
  have HF := fun (W : World) (hW : RowB W a L) => implFill_any a c 0 L none 0 [] (by omega) W hW (RowB.none W none) (by simp) hc (by simp)
  rw [eL] at HF
  have HR := Lib.hid hr
  have HL := Lib.hid h
  clear h hr eL
  have q := BoxN.new w 30 #[.slice a L.length c]
  go_enter Tryz.func36, Tryz.ntmps36
  go_wp2_with fail
  refine (HO _).mono ?_
  rintro e w1 ⟨rfl, d1⟩
  have b1 := bstep ((Below.refl _ w).alloc (Nat.le_refl _) _) d1
  have q1 := q.below d1
  have c1 : w1.cell? ⟨w.heap.size, 0, none⟩ = some (.slice a L.length c) := q1.cell 0 _ rfl
  clear d1 q HO
  go_wp2_with fail
  refine (HF _ (RowB.below HR.out b1)).mono ?_
  rintro e w2 ⟨v, rfl, o2, d2⟩
  have b2 := bstep b1 d2
  clear c1
  obtain ⟨g, cap, rfl, _⟩ := o2.cells (by omega)
  have hg := (World.ownsRow.lt o2.2) g rfl
  go_wp2
  go_ret
  have x := BoxN.new w2 105 #[.slice (some ⟨g, 0, none⟩) L.length cap, .slice none 0 0]
  have al : Below w2.heap.size w2 (w2.alloc (.cells #[.slice (some ⟨g, 0, none⟩) L.length cap, .slice none 0 0] 105)) := (Below.refl _ _).alloc (Nat.le_refl _) _
  refine ⟨w2.heap.size, rfl, ⟨g, cap, .slice none 0 0, x, ?_, World.ownsRow_nil _ _ _ _, ?_, ?_, ?_, fun k ek => by simp [Value.ownBlock] at ek⟩, bstep b2 al⟩
  · exact (OwnB.base o2 (Nat.zero_le _)).below al
  · show w.heap.size ≤ w2.heap.size
    exact b2.size
  · show w.heap.size ≤ g
    have := b1.size
    omega
  · omega


set_option maxRecDepth 100000 in
theorem told_none {F : Nat → Prop} {w W : World} {P : Nat} {k : OpK} {s : St} {N : Nat} (p : Play F w W P none k s N) :
    Calls Tryz.prog 40 #[.pointer (some ⟨P, 0, none⟩)] W fun e w' => e = .returned (.tuple #[cpuV cpu0, ramV (.slice none 0 0), .slice none 0 0]) ∧ Below W.heap.size W w' := by
  have al : Below W.heap.size W ((W.alloc (.cells zeroCpu 28)).alloc (.cells #[.slice none 0 0] 30)) := ((Below.refl _ _).alloc (Nat.le_refl _) _).alloc (by simp) _
  have p1 := p.below al
  have hta : ∀ w : World, (Instr.typeAssert (busV none) 67 103 true).run Tryz.prog w = .ok (.tuple #[.pointer none, .bool false]) w := fun _ => by kernel_rfl
  have g11 : ((W.alloc (.cells zeroCpu 28)).alloc (.cells #[.slice none 0 0] 30)).cell? ⟨P, 11, none⟩ = some (busV none) := p1.cells.2.2.2.2.2.2.2.2.2.2.2.1
  go_enter Tryz.func40, Tryz.ntmps40
  go_wp2
  refine bodyPost_ret (v := .tuple #[cpuV cpu0, ramV (.slice none 0 0), .slice none 0 0]) (by simp [results, Tryz.results40, go_sem, cpu0]) rfl ⟨rfl, ?_⟩
  repeat (any_goals (first | (with_reducible exact al) | (with_reducible exact Below.refl _ _) | (with_reducible refine Below.drew ?_) | (with_reducible refine Below.setCell ?_ ?_ _) | (with_reducible refine Below.alloc ?_ ?_ _)))
  all_goals (first | (with_reducible exact Nat.le_refl _) | (simp; done) | (simp; omega))

/-- What is told of a player at a wired bus. -/
def Told (W : World) (s : St) (n : Nat) (e : Ending) (w' : World) : Prop :=
  ∃ g cap v, e = .returned (.tuple #[cpuV s.c, ramV (.slice (some ⟨g, 0, none⟩) s.b.mem.length cap), v]) ∧ OwnB w' n (.slice (some ⟨g, 0, none⟩) s.b.mem.length cap) s.b.mem ∧ OwnC w' n v s.b.log ∧ (∀ j, v.ownBlock = some j → j ≠ g) ∧ Below W.heap.size W w'

theorem rowUp {w : World} {base n len k : Nat} {t : TypeId} {v : Value} {L : List Value} (h : w.ownsRow base t k v len L) (hn : ∀ g, v.ownBlock = some g → n ≤ g) : w.ownsRow n t k v len L := by
  obtain ⟨h1, h2⟩ := h
  refine ⟨h1, ?_⟩
  rcases h2 with h2 | ⟨g, cap, cur, rfl, hb, rest⟩
  · exact .inl h2
  · exact .inr ⟨g, cap, cur, rfl, hn g rfl, rest⟩

theorem told_of {W w' : World} {s : St} {n g cap : Nat} {v : Value} (ho : OwnB W 0 (.slice (some ⟨g, 0, none⟩) s.b.mem.length cap) s.b.mem) (hc : OwnC W 0 v s.b.log) (hg : n ≤ g) (hv : ∀ j, v.ownBlock = some j → n ≤ j ∧ j ≠ g) (hW : Below W.heap.size W w') :
    Told W s n (.returned (.tuple #[cpuV s.c, ramV (.slice (some ⟨g, 0, none⟩) s.b.mem.length cap), v])) w' := by
  refine ⟨g, cap, v, rfl, ⟨(ho.below hW).1, rowUp (ho.below hW).2 (fun j ej => ?_)⟩, rowUp (ownC_below hc hW) (fun j ej => (hv j ej).1), fun j ej => (hv j ej).2, hW⟩
  simp only [Value.ownBlock, Option.some.injEq] at ej
  subst ej
  exact hg

set_option maxRecDepth 100000 in
set_option maxHeartbeats 2000000 in
theorem told_some {n : Nat} {w W : World} {P B : Nat} {k : OpK} {s : St} {N : Nat} (p : Play (fun i => n ≤ i) w W P (some B) k s N) :
    Calls Tryz.prog 40 #[.pointer (some ⟨P, 0, none⟩)] W (Told W s n) := by
  have hPl := p.pl.box.lt
  have al : Below W.heap.size W ((W.alloc (.cells zeroCpu 28)).alloc (.cells #[.slice none 0 0] 30)) := ((Below.refl _ _).alloc (Nat.le_refl _) _).alloc (by simp) _
  have p1 := (p.below al).drew
  have hta : ∀ w : World, (Instr.typeAssert (busV (some B)) 67 103 true).run Tryz.prog w = .ok (.tuple #[.pointer (some ⟨B, 0, none⟩), .bool true]) w := fun _ => by kernel_rfl
  obtain ⟨g, cap, v, hb, ho, hc, fB, fg, hne, fv⟩ := p.pl.bus.1
  have hB := hb.lt
  have g11 : ((W.alloc (.cells zeroCpu 28)).alloc (.cells #[.slice none 0 0] 30)).cell? ⟨P, 11, none⟩ = some (busV (some B)) := (p.below al).cells.2.2.2.2.2.2.2.2.2.2.2.1
  obtain ⟨g0, g1, g2, g3, g4, g5, g6, g7, g8, g9, g10, e11, g12, g13, g15, gf⟩ := p.cells
  have k0 : W.cell? ⟨B, 0, none⟩ = some (.slice (some ⟨g, 0, none⟩) s.b.mem.length cap) := hb.cell 0 _ rfl
  have k1 : W.cell? ⟨B, 1, none⟩ = some v := hb.cell 1 _ rfl
  have HB := Lib.hid (And.intro ho (And.intro hc (And.intro fg fv)))
  clear ho hc fg fv p1
  go_enter Tryz.func40, Tryz.ntmps40
  go_wp2_with fail
  go_region
  all_goals
    go_wp2
    obtain ⟨ho, hc, fg, fv⟩ := HB.out
    refine bodyPost_ret (v := .tuple #[cpuV s.c, ramV (.slice (some ⟨g, 0, none⟩) s.b.mem.length cap), v]) (by simp [results, Tryz.results40, go_sem]) rfl ?_
    refine told_of ho hc fg.1 (fun j ej => ⟨(fv j ej).1.1, (fv j ej).2.2⟩) ?_
    repeat (any_goals (first | (with_reducible exact Below.refl _ _) | (with_reducible refine Below.drew ?_) | (with_reducible refine Below.setCell ?_ ?_ _) | (with_reducible refine Below.alloc ?_ ?_ _)))
    all_goals (first | (with_reducible exact Nat.le_refl _) | (simp; done) | (simp; omega))

end Go.Proofs.YtblchdmemhhcbaaGreat

namespace Go.Proofs.YtblchdmemhhcbaaGreat
set_option linter.unusedVariables false
set_option linter.unusedSimpArgs false
open Go.RowKit

theorem sixteen {W : World} {B : Nat} {t : TypeId} {a0 a1 a2 a3 a4 a5 a6 a7 a8 a9 a10 a11 a12 a13 a14 a15 : Value} (h : BoxN W B t #[a0, a1, a2, a3, a4, a5, a6, a7, a8, a9, a10, a11, a12, a13, a14, a15]) :
    W.cell? ⟨B, 0, none⟩ = some a0 ∧ W.cell? ⟨B, 1, none⟩ = some a1 ∧ W.cell? ⟨B, 2, none⟩ = some a2 ∧ W.cell? ⟨B, 3, none⟩ = some a3 ∧ W.cell? ⟨B, 4, none⟩ = some a4 ∧ W.cell? ⟨B, 5, none⟩ = some a5 ∧ W.cell? ⟨B, 6, none⟩ = some a6 ∧ W.cell? ⟨B, 7, none⟩ = some a7 ∧ W.cell? ⟨B, 8, none⟩ = some a8 ∧ W.cell? ⟨B, 9, none⟩ = some a9 ∧ W.cell? ⟨B, 10, none⟩ = some a10 ∧ W.cell? ⟨B, 11, none⟩ = some a11 ∧ W.cell? ⟨B, 12, none⟩ = some a12 ∧ W.cell? ⟨B, 13, none⟩ = some a13 ∧ W.cell? ⟨B, 14, none⟩ = some a14 ∧ W.cell? ⟨B, 15, none⟩ = some a15 ∧ ∀ k, W.frozen? ⟨B, k, none⟩ = false :=
  ⟨h.cell 0 _ rfl, h.cell 1 _ rfl, h.cell 2 _ rfl, h.cell 3 _ rfl, h.cell 4 _ rfl, h.cell 5 _ rfl, h.cell 6 _ rfl, h.cell 7 _ rfl, h.cell 8 _ rfl, h.cell 9 _ rfl, h.cell 10 _ rfl, h.cell 11 _ rfl, h.cell 12 _ rfl, h.cell 13 _ rfl, h.cell 14 _ rfl, h.cell 15 _ rfl, h.frozen⟩

/-- The box is laid, filled, behind the bus. -/
theorem play_new {W : World} {F G : Nat → Prop} {o : Option Nat} {c : CpuN} {k : OpK} {b : BusN} (hb : BusO W F o b) (hF : ∀ i, i < W.heap.size → F i → G i) (hG : G W.heap.size) (ok : c.ok) :
    PlayAt (W.alloc (.cells (playCells c o k) 74)) G W.heap.size o k ⟨c, b⟩ :=
  ⟨BoxN.new _ _ _, (hb.widen (G := But G W.heap.size) (fun i hi hf => ⟨hF i hi hf, by omega⟩)).below ((Below.refl _ _).alloc (Nat.le_refl _) _), hG, ok⟩

/-- The box was laid ahead of the bus, and is filled behind it. -/
theorem play_old {W : World} {F G : Nat → Prop} {P : Nat} {o : Option Nat} {c : CpuN} {k : OpK} {b : BusN} {cs : Array Value} (hx : BoxN W P 74 cs) (hs : cs.size = 16) (hb : BusO W F o b) (hF : ∀ i, i < W.heap.size → F i → G i) (hP : ¬ F P) (hG : G P) (ok : c.ok) :
    PlayAt ((((((((((((((((W.setCell ⟨P, 0, none⟩ (.int .u8 (c.A : Int))).setCell ⟨P, 1, none⟩ (.int .u8 (c.X : Int))).setCell ⟨P, 2, none⟩ (.int .u8 (c.Y : Int))).setCell ⟨P, 3, none⟩ (.int .u8 (c.S : Int))).setCell ⟨P, 4, none⟩ (.int .u16 (c.PC : Int))).setCell ⟨P, 5, none⟩ (.bool c.N)).setCell ⟨P, 6, none⟩ (.bool c.V)).setCell ⟨P, 7, none⟩ (.bool c.D)).setCell ⟨P, 8, none⟩ (.bool c.I)).setCell ⟨P, 9, none⟩ (.bool c.Z)).setCell ⟨P, 10, none⟩ (.bool c.C)).setCell ⟨P, 11, none⟩ (busV o)).setCell ⟨P, 12, none⟩ (.string k.nm)).setCell ⟨P, 13, none⟩ (.int .i64 k.md)).setCell ⟨P, 14, none⟩ (.int .i64 k.sz)).setCell ⟨P, 15, none⟩ (.int .i64 k.kd)) G P o k ⟨c, b⟩ := by
  obtain ⟨a0, a1, a2, a3, a4, a5, a6, a7, a8, a9, a10, a11, a12, a13, a14, a15, rfl⟩ : ∃ a0 a1 a2 a3 a4 a5 a6 a7 a8 a9 a10 a11 a12 a13 a14 a15, cs = #[a0, a1, a2, a3, a4, a5, a6, a7, a8, a9, a10, a11, a12, a13, a14, a15] := by
    obtain ⟨l⟩ := cs
    match l, hs with
    | [a0, a1, a2, a3, a4, a5, a6, a7, a8, a9, a10, a11, a12, a13, a14, a15], _ => exact ⟨a0, a1, a2, a3, a4, a5, a6, a7, a8, a9, a10, a11, a12, a13, a14, a15, rfl⟩
  have hB : BusO W (But G P) o b := hb.widen (fun i hi hf => ⟨hF i hi hf, fun e => hP (by rw [← e]; exact hf)⟩)
  have hn : ¬ But G P P := fun h => h.2 rfl
  have r1 : BoxN (W.setCell ⟨P, 0, none⟩ (.int .u8 (c.A : Int))) P 74 #[.int .u8 (c.A : Int), a1, a2, a3, a4, a5, a6, a7, a8, a9, a10, a11, a12, a13, a14, a15] := hx.set 0 (.int .u8 (c.A : Int))
  have r2 : BoxN ((W.setCell ⟨P, 0, none⟩ (.int .u8 (c.A : Int))).setCell ⟨P, 1, none⟩ (.int .u8 (c.X : Int))) P 74 #[.int .u8 (c.A : Int), .int .u8 (c.X : Int), a2, a3, a4, a5, a6, a7, a8, a9, a10, a11, a12, a13, a14, a15] := r1.set 1 (.int .u8 (c.X : Int))
  have r3 : BoxN (((W.setCell ⟨P, 0, none⟩ (.int .u8 (c.A : Int))).setCell ⟨P, 1, none⟩ (.int .u8 (c.X : Int))).setCell ⟨P, 2, none⟩ (.int .u8 (c.Y : Int))) P 74 #[.int .u8 (c.A : Int), .int .u8 (c.X : Int), .int .u8 (c.Y : Int), a3, a4, a5, a6, a7, a8, a9, a10, a11, a12, a13, a14, a15] := r2.set 2 (.int .u8 (c.Y : Int))
  have r4 : BoxN ((((W.setCell ⟨P, 0, none⟩ (.int .u8 (c.A : Int))).setCell ⟨P, 1, none⟩ (.int .u8 (c.X : Int))).setCell ⟨P, 2, none⟩ (.int .u8 (c.Y : Int))).setCell ⟨P, 3, none⟩ (.int .u8 (c.S : Int))) P 74 #[.int .u8 (c.A : Int), .int .u8 (c.X : Int), .int .u8 (c.Y : Int), .int .u8 (c.S : Int), a4, a5, a6, a7, a8, a9, a10, a11, a12, a13, a14, a15] := r3.set 3 (.int .u8 (c.S : Int))
  have r5 : BoxN (((((W.setCell ⟨P, 0, none⟩ (.int .u8 (c.A : Int))).setCell ⟨P, 1, none⟩ (.int .u8 (c.X : Int))).setCell ⟨P, 2, none⟩ (.int .u8 (c.Y : Int))).setCell ⟨P, 3, none⟩ (.int .u8 (c.S : Int))).setCell ⟨P, 4, none⟩ (.int .u16 (c.PC : Int))) P 74 #[.int .u8 (c.A : Int), .int .u8 (c.X : Int), .int .u8 (c.Y : Int), .int .u8 (c.S : Int), .int .u16 (c.PC : Int), a5, a6, a7, a8, a9, a10, a11, a12, a13, a14, a15] := r4.set 4 (.int .u16 (c.PC : Int))
  have r6 : BoxN ((((((W.setCell ⟨P, 0, none⟩ (.int .u8 (c.A : Int))).setCell ⟨P, 1, none⟩ (.int .u8 (c.X : Int))).setCell ⟨P, 2, none⟩ (.int .u8 (c.Y : Int))).setCell ⟨P, 3, none⟩ (.int .u8 (c.S : Int))).setCell ⟨P, 4, none⟩ (.int .u16 (c.PC : Int))).setCell ⟨P, 5, none⟩ (.bool c.N)) P 74 #[.int .u8 (c.A : Int), .int .u8 (c.X : Int), .int .u8 (c.Y : Int), .int .u8 (c.S : Int), .int .u16 (c.PC : Int), .bool c.N, a6, a7, a8, a9, a10, a11, a12, a13, a14, a15] := r5.set 5 (.bool c.N)
  have r7 : BoxN (((((((W.setCell ⟨P, 0, none⟩ (.int .u8 (c.A : Int))).setCell ⟨P, 1, none⟩ (.int .u8 (c.X : Int))).setCell ⟨P, 2, none⟩ (.int .u8 (c.Y : Int))).setCell ⟨P, 3, none⟩ (.int .u8 (c.S : Int))).setCell ⟨P, 4, none⟩ (.int .u16 (c.PC : Int))).setCell ⟨P, 5, none⟩ (.bool c.N)).setCell ⟨P, 6, none⟩ (.bool c.V)) P 74 #[.int .u8 (c.A : Int), .int .u8 (c.X : Int), .int .u8 (c.Y : Int), .int .u8 (c.S : Int), .int .u16 (c.PC : Int), .bool c.N, .bool c.V, a7, a8, a9, a10, a11, a12, a13, a14, a15] := r6.set 6 (.bool c.V)
  have r8 : BoxN ((((((((W.setCell ⟨P, 0, none⟩ (.int .u8 (c.A : Int))).setCell ⟨P, 1, none⟩ (.int .u8 (c.X : Int))).setCell ⟨P, 2, none⟩ (.int .u8 (c.Y : Int))).setCell ⟨P, 3, none⟩ (.int .u8 (c.S : Int))).setCell ⟨P, 4, none⟩ (.int .u16 (c.PC : Int))).setCell ⟨P, 5, none⟩ (.bool c.N)).setCell ⟨P, 6, none⟩ (.bool c.V)).setCell ⟨P, 7, none⟩ (.bool c.D)) P 74 #[.int .u8 (c.A : Int), .int .u8 (c.X : Int), .int .u8 (c.Y : Int), .int .u8 (c.S : Int), .int .u16 (c.PC : Int), .bool c.N, .bool c.V, .bool c.D, a8, a9, a10, a11, a12, a13, a14, a15] := r7.set 7 (.bool c.D)
  have r9 : BoxN (((((((((W.setCell ⟨P, 0, none⟩ (.int .u8 (c.A : Int))).setCell ⟨P, 1, none⟩ (.int .u8 (c.X : Int))).setCell ⟨P, 2, none⟩ (.int .u8 (c.Y : Int))).setCell ⟨P, 3, none⟩ (.int .u8 (c.S : Int))).setCell ⟨P, 4, none⟩ (.int .u16 (c.PC : Int))).setCell ⟨P, 5, none⟩ (.bool c.N)).setCell ⟨P, 6, none⟩ (.bool c.V)).setCell ⟨P, 7, none⟩ (.bool c.D)).setCell ⟨P, 8, none⟩ (.bool c.I)) P 74 #[.int .u8 (c.A : Int), .int .u8 (c.X : Int), .int .u8 (c.Y : Int), .int .u8 (c.S : Int), .int .u16 (c.PC : Int), .bool c.N, .bool c.V, .bool c.D, .bool c.I, a9, a10, a11, a12, a13, a14, a15] := r8.set 8 (.bool c.I)
  have r10 : BoxN ((((((((((W.setCell ⟨P, 0, none⟩ (.int .u8 (c.A : Int))).setCell ⟨P, 1, none⟩ (.int .u8 (c.X : Int))).setCell ⟨P, 2, none⟩ (.int .u8 (c.Y : Int))).setCell ⟨P, 3, none⟩ (.int .u8 (c.S : Int))).setCell ⟨P, 4, none⟩ (.int .u16 (c.PC : Int))).setCell ⟨P, 5, none⟩ (.bool c.N)).setCell ⟨P, 6, none⟩ (.bool c.V)).setCell ⟨P, 7, none⟩ (.bool c.D)).setCell ⟨P, 8, none⟩ (.bool c.I)).setCell ⟨P, 9, none⟩ (.bool c.Z)) P 74 #[.int .u8 (c.A : Int), .int .u8 (c.X : Int), .int .u8 (c.Y : Int), .int .u8 (c.S : Int), .int .u16 (c.PC : Int), .bool c.N, .bool c.V, .bool c.D, .bool c.I, .bool c.Z, a10, a11, a12, a13, a14, a15] := r9.set 9 (.bool c.Z)
  have r11 : BoxN (((((((((((W.setCell ⟨P, 0, none⟩ (.int .u8 (c.A : Int))).setCell ⟨P, 1, none⟩ (.int .u8 (c.X : Int))).setCell ⟨P, 2, none⟩ (.int .u8 (c.Y : Int))).setCell ⟨P, 3, none⟩ (.int .u8 (c.S : Int))).setCell ⟨P, 4, none⟩ (.int .u16 (c.PC : Int))).setCell ⟨P, 5, none⟩ (.bool c.N)).setCell ⟨P, 6, none⟩ (.bool c.V)).setCell ⟨P, 7, none⟩ (.bool c.D)).setCell ⟨P, 8, none⟩ (.bool c.I)).setCell ⟨P, 9, none⟩ (.bool c.Z)).setCell ⟨P, 10, none⟩ (.bool c.C)) P 74 #[.int .u8 (c.A : Int), .int .u8 (c.X : Int), .int .u8 (c.Y : Int), .int .u8 (c.S : Int), .int .u16 (c.PC : Int), .bool c.N, .bool c.V, .bool c.D, .bool c.I, .bool c.Z, .bool c.C, a11, a12, a13, a14, a15] := r10.set 10 (.bool c.C)
  have r12 : BoxN ((((((((((((W.setCell ⟨P, 0, none⟩ (.int .u8 (c.A : Int))).setCell ⟨P, 1, none⟩ (.int .u8 (c.X : Int))).setCell ⟨P, 2, none⟩ (.int .u8 (c.Y : Int))).setCell ⟨P, 3, none⟩ (.int .u8 (c.S : Int))).setCell ⟨P, 4, none⟩ (.int .u16 (c.PC : Int))).setCell ⟨P, 5, none⟩ (.bool c.N)).setCell ⟨P, 6, none⟩ (.bool c.V)).setCell ⟨P, 7, none⟩ (.bool c.D)).setCell ⟨P, 8, none⟩ (.bool c.I)).setCell ⟨P, 9, none⟩ (.bool c.Z)).setCell ⟨P, 10, none⟩ (.bool c.C)).setCell ⟨P, 11, none⟩ (busV o)) P 74 #[.int .u8 (c.A : Int), .int .u8 (c.X : Int), .int .u8 (c.Y : Int), .int .u8 (c.S : Int), .int .u16 (c.PC : Int), .bool c.N, .bool c.V, .bool c.D, .bool c.I, .bool c.Z, .bool c.C, busV o, a12, a13, a14, a15] := r11.set 11 (busV o)
  have r13 : BoxN (((((((((((((W.setCell ⟨P, 0, none⟩ (.int .u8 (c.A : Int))).setCell ⟨P, 1, none⟩ (.int .u8 (c.X : Int))).setCell ⟨P, 2, none⟩ (.int .u8 (c.Y : Int))).setCell ⟨P, 3, none⟩ (.int .u8 (c.S : Int))).setCell ⟨P, 4, none⟩ (.int .u16 (c.PC : Int))).setCell ⟨P, 5, none⟩ (.bool c.N)).setCell ⟨P, 6, none⟩ (.bool c.V)).setCell ⟨P, 7, none⟩ (.bool c.D)).setCell ⟨P, 8, none⟩ (.bool c.I)).setCell ⟨P, 9, none⟩ (.bool c.Z)).setCell ⟨P, 10, none⟩ (.bool c.C)).setCell ⟨P, 11, none⟩ (busV o)).setCell ⟨P, 12, none⟩ (.string k.nm)) P 74 #[.int .u8 (c.A : Int), .int .u8 (c.X : Int), .int .u8 (c.Y : Int), .int .u8 (c.S : Int), .int .u16 (c.PC : Int), .bool c.N, .bool c.V, .bool c.D, .bool c.I, .bool c.Z, .bool c.C, busV o, .string k.nm, a13, a14, a15] := r12.set 12 (.string k.nm)
  have r14 : BoxN ((((((((((((((W.setCell ⟨P, 0, none⟩ (.int .u8 (c.A : Int))).setCell ⟨P, 1, none⟩ (.int .u8 (c.X : Int))).setCell ⟨P, 2, none⟩ (.int .u8 (c.Y : Int))).setCell ⟨P, 3, none⟩ (.int .u8 (c.S : Int))).setCell ⟨P, 4, none⟩ (.int .u16 (c.PC : Int))).setCell ⟨P, 5, none⟩ (.bool c.N)).setCell ⟨P, 6, none⟩ (.bool c.V)).setCell ⟨P, 7, none⟩ (.bool c.D)).setCell ⟨P, 8, none⟩ (.bool c.I)).setCell ⟨P, 9, none⟩ (.bool c.Z)).setCell ⟨P, 10, none⟩ (.bool c.C)).setCell ⟨P, 11, none⟩ (busV o)).setCell ⟨P, 12, none⟩ (.string k.nm)).setCell ⟨P, 13, none⟩ (.int .i64 k.md)) P 74 #[.int .u8 (c.A : Int), .int .u8 (c.X : Int), .int .u8 (c.Y : Int), .int .u8 (c.S : Int), .int .u16 (c.PC : Int), .bool c.N, .bool c.V, .bool c.D, .bool c.I, .bool c.Z, .bool c.C, busV o, .string k.nm, .int .i64 k.md, a14, a15] := r13.set 13 (.int .i64 k.md)
  have r15 : BoxN (((((((((((((((W.setCell ⟨P, 0, none⟩ (.int .u8 (c.A : Int))).setCell ⟨P, 1, none⟩ (.int .u8 (c.X : Int))).setCell ⟨P, 2, none⟩ (.int .u8 (c.Y : Int))).setCell ⟨P, 3, none⟩ (.int .u8 (c.S : Int))).setCell ⟨P, 4, none⟩ (.int .u16 (c.PC : Int))).setCell ⟨P, 5, none⟩ (.bool c.N)).setCell ⟨P, 6, none⟩ (.bool c.V)).setCell ⟨P, 7, none⟩ (.bool c.D)).setCell ⟨P, 8, none⟩ (.bool c.I)).setCell ⟨P, 9, none⟩ (.bool c.Z)).setCell ⟨P, 10, none⟩ (.bool c.C)).setCell ⟨P, 11, none⟩ (busV o)).setCell ⟨P, 12, none⟩ (.string k.nm)).setCell ⟨P, 13, none⟩ (.int .i64 k.md)).setCell ⟨P, 14, none⟩ (.int .i64 k.sz)) P 74 #[.int .u8 (c.A : Int), .int .u8 (c.X : Int), .int .u8 (c.Y : Int), .int .u8 (c.S : Int), .int .u16 (c.PC : Int), .bool c.N, .bool c.V, .bool c.D, .bool c.I, .bool c.Z, .bool c.C, busV o, .string k.nm, .int .i64 k.md, .int .i64 k.sz, a15] := r14.set 14 (.int .i64 k.sz)
  have r16 : BoxN ((((((((((((((((W.setCell ⟨P, 0, none⟩ (.int .u8 (c.A : Int))).setCell ⟨P, 1, none⟩ (.int .u8 (c.X : Int))).setCell ⟨P, 2, none⟩ (.int .u8 (c.Y : Int))).setCell ⟨P, 3, none⟩ (.int .u8 (c.S : Int))).setCell ⟨P, 4, none⟩ (.int .u16 (c.PC : Int))).setCell ⟨P, 5, none⟩ (.bool c.N)).setCell ⟨P, 6, none⟩ (.bool c.V)).setCell ⟨P, 7, none⟩ (.bool c.D)).setCell ⟨P, 8, none⟩ (.bool c.I)).setCell ⟨P, 9, none⟩ (.bool c.Z)).setCell ⟨P, 10, none⟩ (.bool c.C)).setCell ⟨P, 11, none⟩ (busV o)).setCell ⟨P, 12, none⟩ (.string k.nm)).setCell ⟨P, 13, none⟩ (.int .i64 k.md)).setCell ⟨P, 14, none⟩ (.int .i64 k.sz)).setCell ⟨P, 15, none⟩ (.int .i64 k.kd)) P 74 #[.int .u8 (c.A : Int), .int .u8 (c.X : Int), .int .u8 (c.Y : Int), .int .u8 (c.S : Int), .int .u16 (c.PC : Int), .bool c.N, .bool c.V, .bool c.D, .bool c.I, .bool c.Z, .bool c.C, busV o, .string k.nm, .int .i64 k.md, .int .i64 k.sz, .int .i64 k.kd] := r15.set 15 (.int .i64 k.kd)
  refine ⟨r16, ?_, hG, ok⟩
  exact (((((((((((((((hB.set _ hn).set _ hn).set _ hn).set _ hn).set _ hn).set _ hn).set _ hn).set _ hn).set _ hn).set _ hn).set _ hn).set _ hn).set _ hn).set _ hn).set _ hn).set _ hn

theorem play_newV {W : World} {F G : Nat → Prop} {o : Option Nat} {c : CpuN} {k : OpK} {b : BusN} {vb vn vm vz vk : Value} (eb : vb = busV o) (en : vn = .string k.nm) (em : vm = .int .i64 k.md) (ez : vz = .int .i64 k.sz) (ek : vk = .int .i64 k.kd) (hb : BusO W F o b) (hF : ∀ i, i < W.heap.size → F i → G i) (hG : G W.heap.size) (ok : c.ok) :
    PlayAt (W.alloc (.cells #[.int .u8 (c.A : Int), .int .u8 (c.X : Int), .int .u8 (c.Y : Int), .int .u8 (c.S : Int), .int .u16 (c.PC : Int), .bool c.N, .bool c.V, .bool c.D, .bool c.I, .bool c.Z, .bool c.C, vb, vn, vm, vz, vk] 74)) G W.heap.size o k ⟨c, b⟩ := by
  subst eb en em ez ek
  exact play_new hb hF hG ok

theorem play_oldV {W : World} {F G : Nat → Prop} {P : Nat} {o : Option Nat} {c : CpuN} {k : OpK} {b : BusN} {cs : Array Value} {vb vn vm vz vk : Value} (eb : vb = busV o) (en : vn = .string k.nm) (em : vm = .int .i64 k.md) (ez : vz = .int .i64 k.sz) (ek : vk = .int .i64 k.kd) (hx : BoxN W P 74 cs) (hs : cs.size = 16) (hb : BusO W F o b) (hF : ∀ i, i < W.heap.size → F i → G i) (hP : ¬ F P) (hG : G P) (ok : c.ok) :
    PlayAt ((((((((((((((((W.setCell ⟨P, 0, none⟩ (.int .u8 (c.A : Int))).setCell ⟨P, 1, none⟩ (.int .u8 (c.X : Int))).setCell ⟨P, 2, none⟩ (.int .u8 (c.Y : Int))).setCell ⟨P, 3, none⟩ (.int .u8 (c.S : Int))).setCell ⟨P, 4, none⟩ (.int .u16 (c.PC : Int))).setCell ⟨P, 5, none⟩ (.bool c.N)).setCell ⟨P, 6, none⟩ (.bool c.V)).setCell ⟨P, 7, none⟩ (.bool c.D)).setCell ⟨P, 8, none⟩ (.bool c.I)).setCell ⟨P, 9, none⟩ (.bool c.Z)).setCell ⟨P, 10, none⟩ (.bool c.C)).setCell ⟨P, 11, none⟩ (vb)).setCell ⟨P, 12, none⟩ (vn)).setCell ⟨P, 13, none⟩ (vm)).setCell ⟨P, 14, none⟩ (vz)).setCell ⟨P, 15, none⟩ (vk)) G P o k ⟨c, b⟩ := by
  subst eb en em ez ek
  exact play_old hx hs hb hF hP hG ok

end Go.Proofs.YtblchdmemhhcbaaGreat
