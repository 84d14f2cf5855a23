/-
  The law of lists that are filled in (FnFill), walked over any program whose functions keep their contracts.
-/
import Derived.Test.YtppkcljpfjdlnaaRamLaws
import Derived.Test.YtppkcljpfjdlnaaDrawFill
import Derived.Test.YtppkcljpfjdlnaaCodesLaw
namespace Go.Proofs.Ytppkcljpfjdlnaa
set_option linter.unusedVariables false
set_option linter.unusedSimpArgs false
open Go.RowKit

theorem sameB_seg (a1 a2 : Option Addr) (c1 c2 : Nat) (L : List Nat) (w : World) (hl : L.length ≤ 1048576) (h1 : RowB w a1 L) (h2 : RowB w a2 L) :
    Calls Try.prog 21 #[.slice a1 L.length c1, .slice a2 L.length c2] w fun e w' => e = .returned (.bool true) ∧ Below w.heap.size w w' := by
  refine (sameB_true a1 a2 c1 c2 L w (by omega) h1 h2).mono ?_
  rintro e w' ⟨rfl, k, rfl⟩
  exact ⟨rfl, below_drewN (Below.refl _ _) k⟩

theorem poke_step {M : List Nat} {n addr j x : Nat} (hM : M.length = n) (h : ramN n = true) : pokeL M ((addr + j) % 65536) x = M.set ((addr + j) % 65536 % n) x := by
  unfold pokeL
  rw [hM, if_pos h]

set_option maxRecDepth 100000 in
set_option maxHeartbeats 4000000 in
theorem walkFnFill (HF : ImplFill) (HK : ImplPoke) (a : Option Addr) (len cap : Nat) (z : List Int) (w : World) (hc : CodeRow w.heap.size w a len z) (hl : len ≤ 1048576) :
    Calls Try.prog 4 #[.slice a len cap] w fun e w' => e = .returned (.bool true) ∧ Below w.heap.size w w' := by
  have hbig : decide ((1048576 : Int) < len) = false := by simp; omega
  have hfl : ∀ (v : Value) (w : World), (Instr.field 25 (.agg #[v]) 0).run Try.prog w = .ok v w := fun v w => by kernel_rfl
  go_enter Try.func4, Try.ntmps4
  go_wp2_with fail
  refine (bigCode_any _ _ _ _).mono ?_
  rintro e w' ⟨rfl, rfl⟩
  rw [hbig]
  clear hbig
  go_wp2_with fail
  refine (drawFill_any w.heap.size a len cap z w hc (Nat.le_refl _)).mono ?_
  rintro e w1 ⟨v1, L, addr, vx, X, hL, ha, hX, rfl, o1, ox1, d1⟩
  have hw01 : w.heap.size ≤ w1.heap.size := d1.size
  have s1 := SegB.of o1
  have x1 := SegB.of ox1
  obtain ⟨a1, c1, rfl, h1c⟩ := s1.len
  obtain ⟨ax, cx, rfl, hxc⟩ := x1.len
  have k2 : Below w1.heap.size w1 (w1.alloc (.cells #[.slice a1 L.length c1] 25)) := (Below.refl _ _).alloc (Nat.le_refl _) _
  have p2 : BoxN (w1.alloc (.cells #[.slice a1 L.length c1] 25)) w1.heap.size 25 #[.slice a1 L.length c1] := BoxN.new _ _ _
  have s2 := s1.below k2
  have x2 := x1.below k2
  have b2 := bstep d1 k2
  obtain ⟨M, hM⟩ : ∃ M, fillL L addr X = M := ⟨_, rfl⟩
  have hml : M.length ≤ 1048576 := by rw [← hM]; exact fillL_small (by omega)
  have CI := fun W h h' => HF a1 c1 addr L ax cx X W ha (by omega) h1c (by omega) hxc h h'
  have CS := fun W h h' => specFill_any a1 c1 addr L ax cx X ha W h h' (by unfold maxLen; omega)
  rw [hM] at CI CS
  have HM := Lib.hid hM
  clear o1 ox1 d1 s1 x1 k2 hM hc
  go_wp2_with fail
  refine (CI _ s2.row x2.row).mono ?_
  rintro e w3 ⟨v3, rfl, o3, d3⟩
  have s3 := SegB.of o3
  obtain ⟨a3, c3, rfl, h3c⟩ := s3.len
  have hz3 := d3.size
  rw [World.size_alloc] at hz3 s3
  have k4 : Below w3.heap.size w3 (w3.alloc (.cells #[.slice a3 M.length c3] 25)) := (Below.refl _ _).alloc (Nat.le_refl _) _
  have q4 : BoxN (w3.alloc (.cells #[.slice a3 M.length c3] 25)) w3.heap.size 25 #[.slice a3 M.length c3] := BoxN.new _ _ _
  have p4 := (p2.below d3).below k4
  have s4 := (s2.below d3).below k4
  have x4 := (x2.below d3).below k4
  have t4 := s3.below k4
  have b4 := bstep (bstep b2 d3) k4
  clear CI p2 s2 x2 b2 o3 d3 s3 k4
  have S4 : (w3.alloc (.cells #[.slice a3 M.length c3] 25)).drew.cell? ⟨w3.heap.size, 0, none⟩ = some (.slice a3 M.length c3) ∧ (w3.alloc (.cells #[.slice a3 M.length c3] 25)).drew.cell? ⟨w1.heap.size, 0, none⟩ = some (.slice a1 L.length c1) ∧ w3.heap.size < (w3.alloc (.cells #[.slice a3 M.length c3] 25)).drew.heap.size ∧ w1.heap.size < (w3.alloc (.cells #[.slice a3 M.length c3] 25)).drew.heap.size := ⟨q4.cell 0 (.slice a3 M.length c3) rfl, p4.cell 0 (.slice a1 L.length c1) rfl, q4.lt, p4.lt⟩
  have s4' := s4.drew
  have x4' := x4.drew
  have t4' := t4.drew
  have b4' := b4.drew
  have p4' := p4.drew
  have q4' := q4.drew
  clear s4 x4 t4 b4 p4 q4
  go_wp2_with fail
  generalize w3.alloc (.cells #[.slice a3 M.length c3] 25) = W at S4 s4' x4' t4' b4' p4' q4' ⊢
  go_region_held3 (fun w' => w'.cell? ⟨w3.heap.size, 0, none⟩ = some (.slice a3 M.length c3) ∧ w'.cell? ⟨w1.heap.size, 0, none⟩ = some (.slice a1 L.length c1) ∧ w3.heap.size < w'.heap.size ∧ w1.heap.size < w'.heap.size)
    (((try dsimp only); (first | (with_reducible exact S4) | (with_reducible exact two_keep d5 S4) | (with_reducible exact two_keep d6 (two_keep d5 S4)))))
    (first | (go_at_call 22; (with_reducible refine (CS _ s4'.row x4'.row).mono ?_); rintro e w5 ⟨v5, rfl, o5, d5⟩; obtain ⟨a5, c5, rfl⟩ := o5.len) | (go_at_call 21; (refine (sameB_seg a3 a5 c3 c5 M _ hml (t4'.below d5).row o5.row.2).mono ?_); rintro e w6 ⟨rfl, d6⟩))
  have s6 := (s4'.below d5).below d6
  have x6 := (x4'.below d5).below d6
  have t6 := (t4'.below d5).below d6
  have b6 := bstep (bstep b4' d5) d6
  have p6 := (p4'.below d5).below d6
  have q6 := (q4'.below d5).below d6
  clear S4 s4' x4' t4' b4' p4' q4' d5 d6 o5
  have c6 := p6.cell 0 (.slice a1 L.length c1) rfl
  have CO := fun W => specOk_any a1 L.length c1 W
  cases hr : ramN L.length with
  | false =>
    rw [hr] at CO
    have hm0 : ((M.length : Int) == 0) = true := by rw [← HM.out]; unfold fillL; rw [if_neg (fun h => by rw [hr] at h; exact absurd h.1 (by simp))]; rfl
    clear hr
    go_wp2_with fail
    refine (CO _).mono ?_
    rintro e w7 ⟨rfl, d7⟩
    have b7 := bstep b6 d7
    have c7 := (q6.below d7).cell 0 (.slice a3 M.length c3) rfl
    clear d7 b6 p6 q6 s6 x6 t6 c6
    go_wp2
    go_ret
    exact ⟨rfl, b7⟩
  | true =>
    rw [hr] at CO
    by_cases hx1 : (1024 : Int) < (X.length : Int)
    · have hm0 : ((M.length : Int) == 0) = true := by rw [← HM.out]; unfold fillL; rw [if_neg (fun h => by omega)]; rfl
      clear hr
      go_wp2_with fail
      refine (CO _).mono ?_
      rintro e w7 ⟨rfl, d7⟩
      have b7 := bstep b6 d7
      have c7 := (q6.below d7).cell 0 (.slice a3 M.length c3) rfl
      clear d7 b6 p6 q6 s6 x6 t6 c6
      go_wp2
      go_ret
      exact ⟨rfl, b7⟩
    · have hMe : fillAt L.length addr X 0 L = M := by rw [← HM.out]; unfold fillL; rw [if_pos ⟨hr, by omega⟩]
      have hn := ramN_pos hr
      have HR := Lib.hid hr
      have HE := Lib.hid hMe
      clear hr hMe HM
      go_wp2_with fail
      refine (CO _).mono ?_
      rintro e w7 ⟨rfl, d7⟩
      have b7 := bstep b6 d7
      have p7 := p6.below d7
      have q7 := q6.below d7
      have s7 := s6.below d7
      have x7 := x6.below d7
      have t7 := t6.below d7
      clear d7 b6 p6 q6 s6 x6 t6 c6 CO
      by_cases hx2 : (40 : Int) < (X.length : Int)
      · have S7 : w7.drew.cell? ⟨w3.heap.size, 0, none⟩ = some (.slice a3 M.length c3) ∧ w7.drew.cell? ⟨w1.heap.size, 0, none⟩ = some (.slice a1 L.length c1) ∧ w3.heap.size < w7.drew.heap.size ∧ w1.heap.size < w7.drew.heap.size := ⟨q7.cell 0 (.slice a3 M.length c3) rfl, p7.cell 0 (.slice a1 L.length c1) rfl, q7.lt, p7.lt⟩
        have s7' := s7.drew
        have x7' := x7.drew
        have t7' := t7.drew
        have b7' := b7.drew
        clear s7 x7 t7 b7 p7 q7
        go_wp2_with fail
        go_region_held3 (fun w' => w'.cell? ⟨w3.heap.size, 0, none⟩ = some (.slice a3 M.length c3) ∧ w'.cell? ⟨w1.heap.size, 0, none⟩ = some (.slice a1 L.length c1) ∧ w3.heap.size < w'.heap.size ∧ w1.heap.size < w'.heap.size)
          (((try dsimp only); (first | (with_reducible exact S7) | (with_reducible exact two_keep d8 S7) | (with_reducible exact two_keep d9 (two_keep d8 S7)))))
          (first | (go_at_call 22; (with_reducible refine (CS _ s7'.row x7'.row).mono ?_); rintro e w8 ⟨v8, rfl, o8, d8⟩; obtain ⟨a8, c8, rfl⟩ := o8.len) | (go_at_call 21; (refine (sameB_seg a3 a8 c3 c8 M _ hml (t7'.below d8).row o8.row.2).mono ?_); rintro e w9 ⟨rfl, d9⟩))
        go_wp2
        go_ret
        exact ⟨rfl, bstep (bstep b7' d8) d9⟩
      · clear CS
        have hw1 : w1.heap.size < w7.heap.size := p7.lt
        have H0 := Lib.hid (And.intro p7 (And.intro q7 (And.intro s7 (And.intro x7 (And.intro t7 b7)))))
        clear p7 q7 s7 x7 t7 b7
        go_wp2
        go_loopw [7] (fun i wr => ∃ (j : Nat) (N : List Nat) (aN : Option Addr) (cN : Nat), j ≤ X.length ∧ i = .int .i64 j ∧ Hid (N.length = L.length ∧ L.length ≤ cN ∧ fillAt L.length addr (X.drop j) j N = M ∧ BoxN wr w1.heap.size 25 #[.slice aN L.length cN] ∧ BoxN wr w3.heap.size 25 #[.slice a3 M.length c3] ∧ (∃ lo hi, SegB wr lo hi (.slice aN L.length cN) N ∧ (hi ≤ w1.heap.size ∨ w1.heap.size < lo)) ∧ SegB wr w.heap.size w1.heap.size (.slice ax X.length cx) X ∧ SegB wr (w1.heap.size + 1) w3.heap.size (.slice a3 M.length c3) M ∧ Below w.heap.size w wr ∧ w1.heap.size < wr.heap.size)) (fun i _ => X.length - (intOf i).toNat)
        case atStart => exact ⟨0, L, a1, c1, Nat.zero_le _, rfl, Lib.hid ⟨rfl, h1c, HE.out, H0.out.1, H0.out.2.1, ⟨_, _, H0.out.2.2.1, .inl (Nat.le_refl _)⟩, H0.out.2.2.2.1, H0.out.2.2.2.2.1, H0.out.2.2.2.2.2, hw1⟩⟩
        case round =>
          obtain ⟨j, N, aN, cN, hj, rfl, HI⟩ := hrel
          obtain ⟨hN, hNc, hFN, pN, qN, ⟨lo, hi, sN, hd⟩, xN, tN, bN, hsz⟩ := HI.out
          by_cases hp : j < X.length
          · obtain ⟨gx, ox, rfl, _, hcx⟩ := xN.row.2 (by omega)
            have hcj := hcx j hp
            obtain ⟨x, hx⟩ : ∃ x, X.getD j 0 = x := ⟨_, rfl⟩
            have hx2' : x < 256 := by rw [← hx]; exact xN.row.1 j hp
            rw [hx] at hcj
            unfold u8V at hcj
            obtain ⟨P, hP⟩ : ∃ P, (addr + j) % 65536 = P := ⟨_, rfl⟩
            have hP2 : P < 65536 := by omega
            have y1 : IntKind.u16.wrap (j : Int) = (j : Int) := by rw [IntKind.wrap_u16]; omega
            have y2 : IntKind.u16.wrap ((addr : Int) + (j : Int)) = (P : Int) := by rw [IntKind.wrap_u16]; omega
            have ij : (0 : Int) ≤ (j : Int) ∧ (j : Int) < (X.length : Int) := by omega
            have HST := Lib.hid (show fillAt L.length addr (X.drop (j + 1)) (j + 1) (pokeL N P x) = M by rw [← hFN, fillAt_step _ _ _ _ _ hp, hx, ← hP, poke_step hN HR.out])
            have hPL : (pokeL N P x).length = L.length := by unfold pokeL; rw [hN, if_pos HR.out, List.length_set, hN]
            have CK : ∀ W, RowB W aN N → Calls Try.prog 16 #[ramV (.slice aN L.length cN), .int .u16 P, .int .u8 x] W fun e w' => ∃ v, e = .returned (ramV v) ∧ OwnB w' W.heap.size v (pokeL N P x) ∧ Below W.heap.size W w' := fun W h => by
              have := HK aN cN P x N W hP2 hx2' (by omega) (by omega) h
              rw [hN] at this; exact this
            have cN1 := pN.cell 0 (.slice aN L.length cN) rfl
            have HB := Lib.hid (And.intro pN (And.intro qN (And.intro sN (And.intro xN (And.intro tN bN)))))
            have HPL := Lib.hid hPL
            clear hx hP hcx hFN HI pN qN sN xN tN hPL hN
            go_wp2_with fail
            go_still_tail 9, (by kernel_rfl)
            change wpList _ _ _ _ _ wr.drew
            have p8 := HB.out.1.drew
            have q8 := HB.out.2.1.drew
            have s8 := HB.out.2.2.1.drew
            have x8 := HB.out.2.2.2.1.drew
            have t8 := HB.out.2.2.2.2.1.drew
            have b8 := HB.out.2.2.2.2.2.drew
            have hsz8 : w1.heap.size < wr.drew.heap.size := hsz
            clear HB bN hcj cN1 hsz
            generalize wr.drew = w8 at p8 q8 s8 x8 t8 b8 hsz8 ⊢
            go_wp2_with fail
            refine (CK _ s8.row).mono ?_
            rintro e w9 ⟨v9, rfl, o9, d9⟩
            have s9 := SegB.of o9
            obtain ⟨a9, c9, rfl, h9c⟩ := s9.len
            rw [HPL.out] at s9 h9c ⊢
            have p9 := p8.below d9
            have q9 := q8.below d9
            have x9 := x8.below d9
            have t9 := t8.below d9
            have b9 := bstep b8 d9
            have hsz9 := d9.size
            have hw := b8.size
            clear p8 q8 s8 x8 t8 b8 d9 o9 CK
            have cR := p9.cell 0 (.slice aN L.length cN) rfl
            have fR := p9.frozen 0
            have sp := Span.set w9 w1.heap.size 0 (.slice a9 L.length c9)
            have HA := Lib.hid (And.intro (p9.set 0 (.slice a9 L.length c9)) (And.intro (q9.span sp (by omega)) (And.intro (s9.span sp (by omega)) (And.intro (x9.span sp (by omega)) (And.intro (t9.span sp (by omega)) (b9.setCell (p := ⟨w1.heap.size, 0, none⟩) (by show w.heap.size ≤ w1.heap.size; omega) (.slice a9 L.length c9)))))))
            clear p9 q9 s9 x9 t9 b9 sp
            go_wp2
            go_roundw
            case rel => exact ⟨j + 1, pokeL N P x, a9, c9, by omega, by go_num, Lib.hid ⟨HPL.out, h9c, HST.out, HA.out.1, HA.out.2.1, ⟨_, _, HA.out.2.2.1, .inr hsz8⟩, HA.out.2.2.2.1, HA.out.2.2.2.2.1, HA.out.2.2.2.2.2, by simp; omega⟩⟩
            case measure => simp [intOf]; omega
          · obtain rfl : j = X.length := by omega
            have c1' := pN.cell 0 (.slice aN L.length cN) rfl
            have c2' := qN.cell 0 (.slice a3 M.length c3) rfl
            have eNM : N = M := by rw [List.drop_length] at hFN; exact hFN
            rw [eNM] at sN hN
            have CE : ∀ W, RowB W a3 M → RowB W aN M → Calls Try.prog 21 #[.slice a3 M.length c3, .slice aN L.length cN] W fun e w' => e = .returned (.bool true) ∧ Below W.heap.size W w' := fun W h h' => by
              have := sameB_seg a3 aN c3 cN M W hml h h'
              rw [← hN]; exact this
            have rN := sN.1.row.2
            have rM := tN.row
            clear hN eNM hFN HI sN tN pN qN xN
            go_wp2_with fail
            refine (CE _ rM rN).mono ?_
            rintro e w9 ⟨rfl, d9⟩
            have b9 := bstep bN d9
            go_wp2
            go_ret
            exact ⟨rfl, b9⟩

end Go.Proofs.Ytppkcljpfjdlnaa
