/-
  Contracts over the program: the bytes of a loop that are drawn (l07Loop).
-/
import Derived.Test.YtckfdbjjjgfbfaaUDrawRam
import Derived.Deep.DeepCutAuto
import Derived.Deep.CutRange
namespace Go.Proofs.Ytckfdbjjjgfbfaa
set_option linter.unusedVariables false
set_option linter.unusedSimpArgs false
open Go.RowKit

def loopL : List Int := [0, 1, 2, 5, 254, 250, 3]

theorem loopL_bd (i : Nat) : ∃ Q : Nat, loopL[i]?.getD 0 = (Q : Int) ∧ Q < 256 := by
  unfold loopL
  rcases i with _ | _ | _ | _ | _ | _ | _ | i
  · exact ⟨0, rfl, by omega⟩
  · exact ⟨1, rfl, by omega⟩
  · exact ⟨2, rfl, by omega⟩
  · exact ⟨5, rfl, by omega⟩
  · exact ⟨254, rfl, by omega⟩
  · exact ⟨250, rfl, by omega⟩
  · exact ⟨3, rfl, by omega⟩
  · exact ⟨0, rfl, by omega⟩

set_option maxRecDepth 100000 in
set_option maxHeartbeats 4000000 in
theorem loop_drawn (n₀ B : Nat) (a : Option Addr) (len cap : Nat) (z : List Int) (s : Nat × Int) (w : World) (h : Drawn n₀ B a len cap z s w) :
    Calls Try.prog 48 #[.pointer (some ⟨B, 0, none⟩)] w (DrewBytesN n₀ B a len cap z 3 64 w) := by
  obtain ⟨i0, hi, hz0, hz1, hz2⟩ := info_parts infoU8
  have hBw := h.lt
  obtain ⟨q0, q1⟩ := belowV_bound z len s 14 (by omega)
  obtain ⟨n1, hn⟩ := Int.eq_ofNat_of_zero_le q0
  rw [hn] at q1
  have hn16 : n1 ≤ 13 := by omega
  have HN := Lib.hid hn
  clear hn q0 q1
  go_enter Try.func48, Try.ntmps48
  go_wp2_with fail
  refine (below_drawn n₀ B a len cap z s 14 _ (h.alloc _)).mono ?_
  rintro e w1 ⟨rfl, hd1, hg1⟩
  rw [HN.out]
  have hO1 : OwnB w1 w.heap.size (.slice (some ⟨w.heap.size, 0, none⟩) 0 0) [] := OwnB.grown ⟨fun i hi => by simp at hi, World.ownsRow_made w #[] 0 (Nat.le_refl _) (by decide) rfl⟩ hg1 hBw
  have hG1 := grown_trans (World.grownBy_alloc w (.cells #[] 5) (some B)) hg1
  clear h hg1
  obtain ⟨n, hnn⟩ : ∃ n : Nat, (3 : Int) + (n1 : Int) = (n : Int) := ⟨3 + n1, by omega⟩
  have hn19 : 3 ≤ n ∧ n ≤ 16 := by omega
  go_wp2
  try rw [hnn]
  go_loopw [3, 5] (fun out i wr => ∃ (j : Nat) (L : List Nat) (s' : Nat × Int), j ≤ n ∧ (L.length ≤ 3 * j ∧ j ≤ L.length) ∧ i = .int .i64 j ∧ OwnB wr w.heap.size out L ∧ Drawn n₀ B a len cap z s' wr ∧ w.grownBy wr (some B)) (fun _ i _ => n - (intOf i).toNat)
  case atStart => exact ⟨0, [], _, Nat.zero_le _, ⟨Nat.zero_le _, Nat.zero_le _⟩, rfl, hO1, hd1, hG1⟩
  case round =>
    obtain ⟨j, L, s', hj, hL, rfl, hO, hd, hg⟩ := hrel
    by_cases hp : j < n
    · go_wp2_with fail
      refine (code_drawn n₀ B a len cap z s' _ hd).mono ?_
      rintro e w2 ⟨x, s2, hx, rfl, hd2, hg2⟩
      have hO2 := hO.grown hg2 hBw
      have hG2 := grown_trans hg hg2
      clear hO hd hg hg2
      go_wp2
      go_loopw [6, 7] (fun bb i wr => ∃ (y k : Nat) (s' : Nat × Int), y < 256 ∧ k ≤ 4 ∧ bb = .int .u8 y ∧ i = .int .i64 k ∧ OwnB wr w.heap.size _ L ∧ Drawn n₀ B a len cap z s' wr ∧ w.grownBy wr (some B)) (fun _ i _ => 4 - (intOf i).toNat)
      case atStart => exact ⟨x, 0, _, hx, Nat.zero_le _, rfl, rfl, hO2, hd2, hG2⟩
      case round =>
        obtain ⟨y, k, s3, hy, hk, rfl, rfl, hO3, hd3, hG3⟩ := hrel
        have HK := fun W => specKind_any y hy W
        obtain ⟨K, hK⟩ : ∃ K, opKind y = K := ⟨_, rfl⟩
        rw [hK] at HK
        go_upto_region 8 with fail
        go_cut [52] from 21 to 56 (fun v W => ∃ b : Bool, v = .bool b ∧ (b = true → k < 4) ∧ Below wr.heap.size wr W)
        case first =>
          by_cases hk4 : k < 4
          · cases hE0 : (K == 0) with
            | true =>
              go_wp2_with fail
              refine (HK _).mono ?_
              rintro e v0 ⟨rfl, r0⟩
              go_wp2
              go_meet
              exact ⟨true, rfl, fun _ => hk4, r0⟩
            | false =>
              cases hE1 : (K == 6) with
              | true =>
                go_wp2_with fail
                refine (HK _).mono ?_
                rintro e v0 ⟨rfl, r0⟩
                go_wp2_with fail
                refine (HK _).mono ?_
                rintro e v1 ⟨rfl, r1⟩
                go_wp2
                go_meet
                exact ⟨true, rfl, fun _ => hk4, (bstep r0 r1)⟩
              | false =>
                cases hE2 : (K == 10) with
                | true =>
                  go_wp2_with fail
                  refine (HK _).mono ?_
                  rintro e v0 ⟨rfl, r0⟩
                  go_wp2_with fail
                  refine (HK _).mono ?_
                  rintro e v1 ⟨rfl, r1⟩
                  go_wp2_with fail
                  refine (HK _).mono ?_
                  rintro e v2 ⟨rfl, r2⟩
                  go_wp2
                  go_meet
                  exact ⟨true, rfl, fun _ => hk4, (bstep (bstep r0 r1) r2)⟩
                | false =>
                  cases hE3 : (K == 9) with
                  | true =>
                    go_wp2_with fail
                    refine (HK _).mono ?_
                    rintro e v0 ⟨rfl, r0⟩
                    go_wp2_with fail
                    refine (HK _).mono ?_
                    rintro e v1 ⟨rfl, r1⟩
                    go_wp2_with fail
                    refine (HK _).mono ?_
                    rintro e v2 ⟨rfl, r2⟩
                    go_wp2_with fail
                    refine (HK _).mono ?_
                    rintro e v3 ⟨rfl, r3⟩
                    go_wp2
                    go_meet
                    exact ⟨true, rfl, fun _ => hk4, (bstep (bstep (bstep r0 r1) r2) r3)⟩
                  | false =>
                    cases hE4 : (K == 8) with
                    | true =>
                      go_wp2_with fail
                      refine (HK _).mono ?_
                      rintro e v0 ⟨rfl, r0⟩
                      go_wp2_with fail
                      refine (HK _).mono ?_
                      rintro e v1 ⟨rfl, r1⟩
                      go_wp2_with fail
                      refine (HK _).mono ?_
                      rintro e v2 ⟨rfl, r2⟩
                      go_wp2_with fail
                      refine (HK _).mono ?_
                      rintro e v3 ⟨rfl, r3⟩
                      go_wp2_with fail
                      refine (HK _).mono ?_
                      rintro e v4 ⟨rfl, r4⟩
                      go_wp2
                      go_meet
                      exact ⟨true, rfl, fun _ => hk4, (bstep (bstep (bstep (bstep r0 r1) r2) r3) r4)⟩
                    | false =>
                      cases hE5 : (K == 7) with
                      | true =>
                        go_wp2_with fail
                        refine (HK _).mono ?_
                        rintro e v0 ⟨rfl, r0⟩
                        go_wp2_with fail
                        refine (HK _).mono ?_
                        rintro e v1 ⟨rfl, r1⟩
                        go_wp2_with fail
                        refine (HK _).mono ?_
                        rintro e v2 ⟨rfl, r2⟩
                        go_wp2_with fail
                        refine (HK _).mono ?_
                        rintro e v3 ⟨rfl, r3⟩
                        go_wp2_with fail
                        refine (HK _).mono ?_
                        rintro e v4 ⟨rfl, r4⟩
                        go_wp2_with fail
                        refine (HK _).mono ?_
                        rintro e v5 ⟨rfl, r5⟩
                        go_wp2
                        go_meet
                        exact ⟨true, rfl, fun _ => hk4, (bstep (bstep (bstep (bstep (bstep r0 r1) r2) r3) r4) r5)⟩
                      | false =>
                        go_wp2_with fail
                        refine (HK _).mono ?_
                        rintro e v0 ⟨rfl, r0⟩
                        go_wp2_with fail
                        refine (HK _).mono ?_
                        rintro e v1 ⟨rfl, r1⟩
                        go_wp2_with fail
                        refine (HK _).mono ?_
                        rintro e v2 ⟨rfl, r2⟩
                        go_wp2_with fail
                        refine (HK _).mono ?_
                        rintro e v3 ⟨rfl, r3⟩
                        go_wp2_with fail
                        refine (HK _).mono ?_
                        rintro e v4 ⟨rfl, r4⟩
                        go_wp2_with fail
                        refine (HK _).mono ?_
                        rintro e v5 ⟨rfl, r5⟩
                        go_wp2
                        go_meet
                        exact ⟨false, rfl, fun h => (Bool.noConfusion h), (bstep (bstep (bstep (bstep (bstep r0 r1) r2) r3) r4) r5)⟩
          · go_wp2_with fail
            go_meet
            exact ⟨false, rfl, fun h => (Bool.noConfusion h), Below.refl _ _⟩
        obtain ⟨b, rfl, hb4, hbW⟩ := hcut
        replace hO3 := hO3.below hbW
        replace hd3 := hd3.below hbW
        replace hG3 := grown_trans hG3 (grown_of_below hbW)
        clear hbW
        cases b with
        | true =>
          have hk4 := hb4 rfl
          clear hb4 HK hK
          go_wp2_with fail
          refine (code_drawn n₀ B a len cap z s3 _ hd3).mono ?_
          rintro e w4 ⟨x4, s4, hx4, rfl, hd4, hg4⟩
          have hO4 := hO3.grown hg4 hBw
          have hG4 := grown_trans hG3 hg4
          clear hO3 hd3 hG3 hg4
          go_wp2
          go_roundw
          case rel => exact ⟨x4, k + 1, _, hx4, by omega, rfl, by go_num, hO4, hd4, hG4⟩
          case measure => simp [intOf]; omega
        | false =>
          clear hb4 hk
          have hsz3 := hG3.size
          go_wp2_with (at_builtin; refine wpList_append_own _ rfl _ _ 22 rfl w.heap.size 5 i0 (.int .u8 0) 1 1 Try.underlying22 hi hz0 hz1 hz2 rfl (by decide) _ _ _ rfl (World.ownsRow.alloc hO3.2 _) ⟨wc.heap.size, 0, none⟩ 1 1 [u8V y] rfl rfl (cell_one_new _ _ _) ?c2 ?c3 ?c4 ?c5 ?_)
          case c2 => first | rfl | (intro u hu; simp at hu; subst hu; rfl)
          case c3 => unfold maxLen; first | omega | (simp; omega)
          case c4 => first | omega | (simp; omega)
          case c5 => first | omega | (simp; omega)
          intro v5 w5 hown hgrow _
          have hrow : ∀ k, Value.ownBlock _ = some k → w.heap.size ≤ k := fun k ek => ((World.ownsRow.lt hO3.2) k ek).1
          have hG5 : w.grownBy w5 (some B) := grown_own (grown_trans hG3 (World.grownBy_alloc wc _ (some B))) hgrow hrow
          have hd5 := (hd3.alloc _).grown hgrow (fun k ek => by have := hrow k ek; omega)
          have hO5 : OwnB w5 w.heap.size v5 (L ++ [y]) := ⟨app_one hO3.1 (by omega), by simpa using hown⟩
          clear hown hgrow hO3 hd3 hG3 hrow hsz3
          obtain ⟨q, hq⟩ : ∃ q : Nat, opSize y = q ∧ q ≤ 3 := by
            obtain ⟨z0, z3⟩ := opSize_range hy
            exact ⟨(opSize y).toNat, by omega, by omega⟩
          obtain ⟨hq, hq3⟩ := hq
          have HSZ := fun w => specSize_any y hy w
          rw [hq] at HSZ
          clear hq
          go_wp2
          go_loopw [3, 8] (fun out i wr => ∃ (m : Nat) (M : List Nat) (s' : Nat × Int), 1 ≤ m ∧ m ≤ 3 ∧ (M.length ≤ 3 * j + m ∧ j + 1 ≤ M.length) ∧ i = .int .i64 m ∧ OwnB wr w.heap.size out M ∧ Drawn n₀ B a len cap z s' wr ∧ w.grownBy wr (some B)) (fun _ i _ => 3 - (intOf i).toNat)
          case atStart => exact ⟨1, L ++ [y], s3, Nat.le_refl _, by omega, by simp; omega, rfl, hO5, hd5, hG5⟩
          case round =>
            obtain ⟨m, M, s6, hm1, hm3, hM, rfl, hO6, hd6, hG6⟩ := hrel
            by_cases hmk : m < q
            · have hmk' : (m : Int) < (q : Int) := by omega
              go_wp2_with fail
              refine (HSZ _).mono ?_
              rintro e w7 ⟨rfl, b7⟩
              have hO7 := hO6.below b7
              have hd7 := hd6.below b7
              have hG7 := grown_trans hG6 (grown_of_below b7)
              clear hO6 hd6 hG6 b7
              go_wp2_with fail
              refine (byte2_some n₀ B a len cap z s6 _ hd7).mono ?_
              rintro e w8 ⟨y8, s8, hy0, hy1, rfl, hd8, hg8⟩
              obtain ⟨Y, rfl⟩ := Int.eq_ofNat_of_zero_le hy0
              have hY : Y < 256 := by omega
              have hO8 := hO7.grown hg8 hBw
              have hG8 := grown_trans hG7 hg8
              clear hO7 hd7 hG7 hg8 hy0 hy1
              cases hE5 : (K == 5) with
              | true =>
                go_wp2_with fail
                refine (HK _).mono ?_
                rintro e w9 ⟨rfl, b9⟩
                have hO9 := hO8.below b9
                have hd9 := hd8.below b9
                have hG9 := grown_trans hG8 (grown_of_below b9)
                clear hO8 hd8 hG8 b9
                go_wp2_with fail
                have hcells := ints_cells w9 loopL 3
                refine (pickInt_drawn n₀ B a len cap z s8 w9.heap.size 7 7 loopL _ (hd9.alloc _) (by omega) (by omega) (by have := hd9.lt; omega) (by simp) (fun i hi => hcells i hi)).mono ?_
                rintro e w10 ⟨rfl, hd10, hg10⟩
                obtain ⟨Q, hQ, hQ2⟩ : ∃ Q : Nat, loopL[(belowV z len s8 ((7 : Nat) : Int)).toNat]?.getD 0 = (Q : Int) ∧ Q < 256 := loopL_bd _
                rw [hQ]
                have hO10 := (hO9.below ((Below.refl _ _).alloc (Nat.le_refl _) (.cells (loopL.map (Value.int .i64)).toArray 3))).grown hg10 hBw
                have hG10 := grown_trans hG9 (grown_trans (World.grownBy_alloc w9 _ (some B)) hg10)
                clear hO9 hd9 hG9 hg10 hcells hQ
                have hsz10 := hG10.size
                have hQ8 : IntKind.u8.wrap (Q : Int) = (Q : Int) := by simp only [IntKind.wrap, IntKind.bits, IntKind.signed]; simp; omega
                go_wp2_with (at_builtin; refine wpList_append_own _ rfl _ _ 22 rfl w.heap.size 5 i0 (.int .u8 0) 1 1 Try.underlying22 hi hz0 hz1 hz2 rfl (by decide) _ _ _ rfl (World.ownsRow.alloc hO10.2 _) ⟨w10.heap.size, 0, none⟩ 1 1 [u8V Q] rfl rfl (cell_one_new _ _ _) ?c2 ?c3 ?c4 ?c5 ?_)
                case c2 => first | rfl | (intro u hu; simp at hu; subst hu; rfl)
                case c3 => unfold maxLen; first | omega | (simp; omega)
                case c4 => first | omega | (simp; omega)
                case c5 => first | omega | (simp; omega)
                intro v11 w11 hown hgrow _
                have hrow : ∀ k, Value.ownBlock _ = some k → w.heap.size ≤ k := fun k ek => ((World.ownsRow.lt hO10.2) k ek).1
                have hG11 : w.grownBy w11 (some B) := grown_own (grown_trans hG10 (World.grownBy_alloc w10 _ (some B))) hgrow hrow
                have hd11 := (hd10.alloc _).grown hgrow (fun k ek => by have := hrow k ek; omega)
                have hO11 : OwnB w11 w.heap.size v11 (M ++ [Q]) := ⟨app_one hO10.1 (by omega), by simpa using hown⟩
                clear hown hgrow hO10 hd10 hG10 hrow hsz10
                go_wp2
                go_roundw
                case rel => exact ⟨m + 1, _, _, by omega, by omega, by rw [List.length_append]; show M.length + 1 ≤ _ ∧ j + 1 ≤ M.length + 1; omega, by go_num, hO11, hd11, hG11⟩
                case measure => simp [intOf]; omega
              | false =>
                go_wp2_with fail
                refine (HK _).mono ?_
                rintro e w9 ⟨rfl, b9⟩
                have hO9 := hO8.below b9
                have hd9 := hd8.below b9
                have hG9 := grown_trans hG8 (grown_of_below b9)
                clear hO8 hd8 hG8 b9
                have hsz9 := hG9.size
                go_wp2_with (at_builtin; refine wpList_append_own _ rfl _ _ 22 rfl w.heap.size 5 i0 (.int .u8 0) 1 1 Try.underlying22 hi hz0 hz1 hz2 rfl (by decide) _ _ _ rfl (World.ownsRow.alloc hO9.2 _) ⟨w9.heap.size, 0, none⟩ 1 1 [u8V Y] rfl rfl (cell_one_new _ _ _) ?c2 ?c3 ?c4 ?c5 ?_)
                case c2 => first | rfl | (intro u hu; simp at hu; subst hu; rfl)
                case c3 => unfold maxLen; first | omega | (simp; omega)
                case c4 => first | omega | (simp; omega)
                case c5 => first | omega | (simp; omega)
                intro v11 w11 hown hgrow _
                have hrow : ∀ k, Value.ownBlock _ = some k → w.heap.size ≤ k := fun k ek => ((World.ownsRow.lt hO9.2) k ek).1
                have hG11 : w.grownBy w11 (some B) := grown_own (grown_trans hG9 (World.grownBy_alloc w9 _ (some B))) hgrow hrow
                have hd11 := (hd9.alloc _).grown hgrow (fun k ek => by have := hrow k ek; omega)
                have hO11 : OwnB w11 w.heap.size v11 (M ++ [Y]) := ⟨app_one hO9.1 (by omega), by simpa using hown⟩
                clear hown hgrow hO9 hd9 hG9 hrow hsz9
                go_wp2
                go_roundw
                case rel => exact ⟨m + 1, _, _, by omega, by omega, by rw [List.length_append]; show M.length + 1 ≤ _ ∧ j + 1 ≤ M.length + 1; omega, by go_num, hO11, hd11, hG11⟩
                case measure => simp [intOf]; omega
            · have hmk' : ¬ (m : Int) < (q : Int) := by omega
              go_wp2_with fail
              refine (HSZ _).mono ?_
              rintro e w7 ⟨rfl, b7⟩
              have hO7 := hO6.below b7
              have hd7 := hd6.below b7
              have hG7 := grown_trans hG6 (grown_of_below b7)
              clear hO6 hd6 hG6 b7
              go_wp2
              go_roundw
              case rel => exact ⟨j + 1, M, _, by omega, by omega, by go_num, hO7, hd7, hG7⟩
              case measure => simp [intOf]; omega
    · obtain rfl : j = n := by omega
      go_wp2
      go_ret
      exact ⟨_, L, s', by omega, rfl, hO, hd, hg⟩

end Go.Proofs.Ytckfdbjjjgfbfaa
