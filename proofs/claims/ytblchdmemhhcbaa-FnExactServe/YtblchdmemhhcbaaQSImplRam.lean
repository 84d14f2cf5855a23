/-
  The program's memories keep their contracts: Fill and Poke.
-/
import Derived.Test.YtblchdmemhhcbaaQSRamQ
namespace Go.Proofs.Ytblchdmemhhcbaa
set_option linter.unusedVariables false
set_option linter.unusedSimpArgs false
open Go.RowKit

set_option maxRecDepth 100000 in
set_option maxHeartbeats 1000000 in
theorem implFill_no (a : Option Addr) (c addr : Nat) (L : List Nat) (ax : Option Addr) (nx cx : Nat) (w : World) (h : ramN L.length = false ∨ 1024 < nx) (hx : nx ≤ maxLen) :
    Calls Try.prog 42 #[ramV (.slice a L.length c), .int .u16 addr, .slice ax nx cx] w fun e w' => e = .returned (ramV (.slice none 0 0)) ∧ Below w.heap.size w w' := by
  have HO := fun w => implOk_any a L.length c w
  have hxx : (nx : Int) ≤ 9223372036854775807 := by unfold maxLen at hx; omega
  cases h1 : ramN L.length with
  | false =>
    rw [h1] at HO
    clear h h1
    go_enter Try.func42, Try.ntmps42
    go_wp2_with fail
    refine (HO _).mono ?_
    rintro e w1 ⟨rfl, b1⟩
    have bx := boxAt (Boxed.new (w.alloc (.cells #[.slice a L.length c] 34)) 34 (.slice none 0 0)) b1
    rw [World.size_alloc] at bx
    have b2 := bstep (((Below.refl _ _).alloc (Nat.le_refl _) _).alloc (by simp) _) b1
    have hcx := bx.cell
    have hfx := bx.frozen
    have hcx2 := (bx.set (.slice none 0 0)).cell
    go_wp2
    exact bodyPost_ret (v := ramV (.slice none 0 0)) (by simp [results, Try.results42, go_sem, hcx2]) rfl ⟨rfl, b2.setCell (by simp) _⟩
  | true =>
    have hbig : (1024 : Int) < (nx : Int) := by rcases h with h | h; rw [h1] at h; cases h; omega
    rw [h1] at HO
    clear h h1
    go_enter Try.func42, Try.ntmps42
    go_wp2_with fail
    refine (HO _).mono ?_
    rintro e w1 ⟨rfl, b1⟩
    have bx := boxAt (Boxed.new (w.alloc (.cells #[.slice a L.length c] 34)) 34 (.slice none 0 0)) b1
    rw [World.size_alloc] at bx
    have b2 := bstep (((Below.refl _ _).alloc (Nat.le_refl _) _).alloc (by simp) _) b1
    have hcx := bx.cell
    have hfx := bx.frozen
    have hcx2 := (bx.set (.slice none 0 0)).cell
    go_wp2
    exact bodyPost_ret (v := ramV (.slice none 0 0)) (by simp [results, Try.results42, go_sem, hcx2]) rfl ⟨rfl, b2.setCell (by simp) _⟩

set_option maxRecDepth 100000 in
set_option maxHeartbeats 4000000 in
theorem implFill_yes (a : Option Addr) (c addr : Nat) (L : List Nat) (ax : Option Addr) (cx : Nat) (X : List Nat) (ha : addr < 65536) (w : World) (hr : RowB w a L) (hx : RowB w ax X) (h : ramN L.length = true) (hX : X.length ≤ 1024) (hc : L.length ≤ c) (hxc : X.length ≤ cx) :
    Calls Try.prog 42 #[ramV (.slice a L.length c), .int .u16 addr, .slice ax X.length cx] w fun e w' => ∃ v, e = .returned (ramV v) ∧ OwnB w' w.heap.size v (fillAt L.length addr X 0 L) ∧ Below w.heap.size w w' := by
  have HO := fun w => implOk_any a L.length c w
  rw [h] at HO
  have hn := ramN_pos h
  have HN := fun w => implNew_any (L.length : Int) w
  have hL0 : newL (L.length : Int) = List.replicate L.length 0 := by unfold newL; rw [ramI_nat, if_pos h]; simp
  rw [hL0] at HN
  have hxl : ¬ (1024 : Int) < (X.length : Int) := by omega
  obtain ⟨g, o, rfl, hg, _⟩ := hr.2 (by omega)
  have hgx : 0 < X.length → ∀ b, ax = some b → b.block < w.heap.size := fun h0 b eb => by
    obtain ⟨gx, ox, e, hl, _⟩ := hx.2 h0
    rw [e] at eb
    simp only [Option.some.injEq] at eb
    rw [← eb]; exact hl
  obtain ⟨n, hnL⟩ : ∃ n, L.length = n := ⟨_, rfl⟩
  rw [hnL] at HO HN h hn hc ⊢
  have HL := Lib.hid hnL
  have HR := Lib.hid hr
  have HX := Lib.hid hx
  have HRN := Lib.hid h
  have HGX := Lib.hid hgx
  clear hr hx hL0 h hnL hgx
  go_enter Try.func42, Try.ntmps42
  go_wp2_with fail
  refine (HO _).mono ?_
  rintro e w1 ⟨rfl, d1⟩
  have p3 := ((BoxN.new w 34 #[.slice (some ⟨g, o, none⟩) n c]).below ((Below.refl _ _).alloc (Nat.le_refl _) (.cells #[.slice none 0 0] 34))).below d1
  have p6 := (BoxN.new (w.alloc (.cells #[.slice (some ⟨g, o, none⟩) n c] 34)) 34 #[.slice none 0 0]).below d1
  rw [World.size_alloc] at p6
  have b1 := bstep (((Below.refl _ w).alloc (Nat.le_refl _) _).alloc (by simp) _) d1
  have hs1 := p6.lt
  clear d1
  have c3 := p3.cell 0 _ rfl
  go_wp2_with fail
  refine (HN _).mono ?_
  rintro e w2 ⟨v, rfl, o2, d2⟩
  obtain ⟨g2, c2, rfl, _⟩ := o2.cells (by rw [List.length_replicate]; omega)
  rw [List.length_replicate] at o2 ⊢
  have hg2 := (World.ownsRow.lt o2.2) g2 rfl
  have b2 := bstep b1 d2
  have q3 := (p3.below d2).below ((Below.refl _ _).alloc (Nat.le_refl _) (.cells #[.slice (some ⟨g2, 0, none⟩) n c2] 34))
  have q6 := (p6.below d2).below ((Below.refl _ _).alloc (Nat.le_refl _) (.cells #[.slice (some ⟨g2, 0, none⟩) n c2] 34))
  have q7 := BoxN.new w2 34 #[.slice (some ⟨g2, 0, none⟩) n c2]
  have b3 := b2.alloc (Nat.le_trans b2.size (Nat.le_refl _)) (.cells #[.slice (some ⟨g2, 0, none⟩) n c2] 34)
  have o3 := o2.below ((Below.refl _ _).alloc (Nat.le_refl _) (.cells #[.slice (some ⟨g2, 0, none⟩) n c2] 34))
  have HR3 := Lib.hid (HR.out.below b3)
  have HX3 := Lib.hid (HX.out.below b3)
  have HO3 := Lib.hid o3
  clear d2 p3 p6 b1 b2 o2 o3 c3
  have c3 := q3.cell 0 _ rfl
  have c7 := q7.cell 0 _ rfl
  go_wp2_with fail
  refine (put_zero g2 n c2 w1.heap.size _ (some ⟨g, o, none⟩) c L _ HRN.out (List.length_replicate ..) HO3.out HR3.out (fun _ b eb => by simp only [Option.some.injEq] at eb; rw [← eb]; show g ≠ g2; omega) HL.out hc).mono ?_
  rintro e w4 ⟨rfl, o4, k4⟩
  have s4 := Span.of_grown k4 (Nat.le_refl g2) (Nat.lt_succ_self g2)
  have r6 := q6.span s4 (by omega)
  have r7 := q7.span s4 (by omega)
  have b4 := b3.trans (s4.below (by omega) (by have := b3.size; omega))
  have HX4 := Lib.hid (HX3.out.grownBut k4 (fun h0 b eb => by have := HGX.out h0 b eb; omega))
  have HO4 := Lib.hid o4
  clear q3 q6 q7 b3 c3 c7 k4 s4 o4 HX3 HO3 HR3
  have c7 := r7.cell 0 _ rfl
  go_wp2_with fail
  refine (put_any g2 n c2 w1.heap.size addr L ax cx X _ ha HRN.out HL.out HO4.out HX4.out (fun h0 b eb => by have := HGX.out h0 b eb; omega) (by omega) hxc).mono ?_
  rintro e w5 ⟨rfl, o5, k5⟩
  have s5 := Span.of_grown k5 (Nat.le_refl g2) (Nat.lt_succ_self g2)
  have t6 := r6.span s5 (by omega)
  have t7 := r7.span s5 (by omega)
  have b5 := b4.trans (s5.below (by omega) (by have := b4.size; omega))
  have HO5 := Lib.hid o5
  clear r6 r7 b4 c7 k5 s5 o5 HX4 HO4
  have c7 := t7.cell 0 _ rfl
  have c6 := t6.cell 0 _ rfl
  have f6 := t6.frozen 0
  have c62 := (t6.set 0 (.slice (some ⟨g2, 0, none⟩) n c2)).cell 0 (.slice (some ⟨g2, 0, none⟩) n c2) rfl
  go_wp2
  exact bodyPost_ret (v := ramV (.slice (some ⟨g2, 0, none⟩) n c2)) (by simp [results, Try.results42, go_sem, c62]) rfl ⟨_, rfl, ownB_ne (OwnB.base HO5.out (by omega)) (grownB_set _ _ _) (fun q hq => by simp [Value.ownBlock] at hq; omega), b5.setCell (by simp) _⟩

theorem implFill_any (a : Option Addr) (c addr : Nat) (L : List Nat) (ax : Option Addr) (cx : Nat) (X : List Nat) (ha : addr < 65536) (w : World) (hr : RowB w a L) (hx : RowB w ax X) (hX : X.length ≤ maxLen) (hc : L.length ≤ c) (hxc : X.length ≤ cx) :
    Calls Try.prog 42 #[ramV (.slice a L.length c), .int .u16 addr, .slice ax X.length cx] w fun e w' => ∃ v, e = .returned (ramV v) ∧ OwnB w' w.heap.size v (fillL L addr X) ∧ Below w.heap.size w w' := by
  by_cases h : ramN L.length = true ∧ X.length ≤ 1024
  · have e : fillL L addr X = fillAt L.length addr X 0 L := if_pos h
    rw [e]
    exact implFill_yes a c addr L ax cx X ha w hr hx h.1 h.2 hc hxc
  · have e : fillL L addr X = [] := if_neg h
    rw [e]
    refine (implFill_no a c addr L ax X.length cx w (by
      cases hn : ramN L.length with
      | false => exact .inl rfl
      | true => exact .inr (by rw [hn] at h; simp at h; exact h)) hX).mono ?_
    rintro e w' ⟨rfl, hb⟩
    exact ⟨_, rfl, ownNil _ _, hb⟩

end Go.Proofs.Ytblchdmemhhcbaa
