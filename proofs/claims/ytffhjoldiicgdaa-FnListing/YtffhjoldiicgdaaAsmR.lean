/-
  Contracts over the program: a listing of bytes (impl.Listing).
-/
import Derived.Test.YtffhjoldiicgdaaAsmQ
import Derived.Test.YtffhjoldiicgdaaAsmJ
namespace Go.Proofs.Ytffhjoldiicgdaa
set_option linter.unusedVariables false
set_option linter.unusedSimpArgs false
open Go.RowKit

theorem rowPart {w : World} {g o : Nat} {L : List Nat} {k s : Nat} (h : RowB w (some ⟨g, o, none⟩) L) (hk : k < L.length) (hs : k + s ≤ L.length) : RowB w (some ⟨g, o + k, none⟩) ((L.drop k).take s) := by
  have hlen : ((L.drop k).take s).length = s := by rw [List.length_take, List.length_drop]; omega
  have hgd : ∀ i, i < s → ((L.drop k).take s).getD i 0 = L.getD (k + i) 0 := fun i hi => by simp [List.getD, List.getElem?_take, hi, List.getElem?_drop]
  obtain ⟨g', o', e, hg, hc⟩ := h.2 (by omega)
  simp only [Option.some.injEq, Addr.mk.injEq, and_true] at e
  obtain ⟨rfl, rfl⟩ := e
  refine ⟨fun i hi => ?_, fun _ => ⟨g, o + k, rfl, hg, fun i hi => ?_⟩⟩
  · rw [hlen] at hi
    rw [hgd i hi]; exact h.1 _ (by omega)
  · rw [hlen] at hi
    rw [hgd i hi, Nat.add_assoc]; exact hc (k + i) (by omega)

theorem partLen {L : List Nat} {k s : Nat} (hs : k + s ≤ L.length) : ((L.drop k).take s).length = s := by rw [List.length_take, List.length_drop]; omega

set_option maxRecDepth 100000 in
set_option maxHeartbeats 16000000 in
theorem implList_in (a : Option Addr) (c org : Nat) (L : List Nat) (hL : L.length ≤ 1024) (hc : L.length ≤ c) (ho : org < 65536) (w : World) (h : RowB w a L) :
    Calls Try.prog 17 #[.slice a L.length c, .int .u16 org] w fun e w' => ∃ v, e = .returned v ∧ OwnStrs w' w.heap.size v (listFrom L org L.length 0) ∧ Below w.heap.size w w' := by
  obtain ⟨i0, hi, hz0, hz1, hz2⟩ := info_parts infoStr
  have HR := Lib.hid h
  clear h
  go_enter Try.func17, Try.ntmps17
  go_wp2
  go_loopw [5, 6] (fun out i wr => ∃ (k : Nat) (pre : List ByteArray), k ≤ L.length ∧ pre.length ≤ k ∧ i = .int .i64 k ∧ OwnStrs wr w.heap.size out pre ∧ Below w.heap.size w wr ∧ Hid (pre ++ listFrom L org (L.length - k) k = listFrom L org L.length 0)) (fun _ i _ => L.length - (intOf i).toNat)
  case atStart => exact ⟨0, [], Nat.zero_le _, Nat.le_refl _, rfl, World.ownsRow_nil _ _ _ _, Below.refl _ _, Lib.hid rfl⟩
  case round =>
    obtain ⟨k, pre, hk, hpl, rfl, hown, hnx, H⟩ := hrel
    have hsz := hnx.size
    by_cases hp : k < L.length
    · obtain ⟨g, o, rfl, hg, hcell⟩ := HR.out.2 (by omega)
      have hb := HR.out.1
      have hbyte := HR.out.byte
      obtain ⟨P, hP⟩ : ∃ P, (org + k) % 65536 = P := ⟨_, rfl⟩
      have EP := Lib.hid (show IntKind.u16.wrap ((org : Int) + (k : Int)) = (P : Int) by rw [IntKind.wrap_u16]; omega)
      have hP2 : P < 65536 := by omega
      have hrw := HR.out.below hnx
      obtain ⟨s, hs⟩ : ∃ s, stepAt L org k = s := ⟨_, rfl⟩
      obtain ⟨hs1, hs3, hsk⟩ := stepAt_pos (org := org) HR.out.1 hp
      rw [hs] at hs1 hs3 hsk
      obtain ⟨T, hT⟩ : ∃ T, textAt L org k = T := ⟨_, rfl⟩
      have HSH := fun w h => implShow (some ⟨g, o + k, none⟩) (L.length - k) (c - k) (L.getD k 0) (L.getD (k + 1) 0) (L.getD (k + 2) 0) P w (hbyte _) (hbyte _) (hbyte _) hP2 (by omega) (by omega) h
      rw [show showOp (L.length - k) (L.getD k 0) (L.getD (k + 1) 0) (L.getD (k + 2) 0) P = T by rw [← hT, textAt, hP]] at HSH
      have HSZ := fun w => implSize (L.getD k 0) w (hbyte _)
      have CBT := fun w => byteText_any (L.getD k 0) (hbyte _) w
      have hck := hrw.cell hp
      obtain ⟨x0, hx0⟩ : ∃ x0, L.getD k 0 = x0 := ⟨_, rfl⟩
      obtain ⟨TB, hTB⟩ : ∃ TB, (⟨#[46, 98, 121, 116, 101, 32, 36]⟩ : ByteArray) ++ strOf (hexL 2 (L.getD k 0)) = TB := ⟨_, rfl⟩
      rw [hTB] at CBT
      have hTBs : TB.size ≤ 16 := by
        rw [← hTB, ByteArray.size_append, show (strOf (hexL 2 (L.getD k 0))).size = 2 from hexL_size 2 _]
        decide
      rw [hx0] at hck HSZ CBT
      have hx02 : x0 < 256 := by rw [← hx0]; exact hbyte k
      have hTs : T.size ≤ 12 := by
        rw [← hT, textAt, showOp]
        split
        · simp
        · rename_i hne
          have hid : opId (L.getD k 0) ≠ 0 := fun e => hne (.inr (.inl (by unfold opSize; rw [if_pos e])))
          exact (show_size (hbyte k) hid).2
      have HT := Lib.hid hT
      have HS := Lib.hid hs
      have HP := Lib.hid hP
      have HX0 := Lib.hid hx0
      have HTB := Lib.hid hTB
      have i0k : (0 : Int) ≤ (k : Int) ∧ (k : Int) < (L.length : Int) := by omega
      have i0l : (0 : Int) ≤ (k : Int) ∧ (k : Int) ≤ (L.length : Int) := by omega
      have hlc : (L.length : Int) ≤ (c : Int) := by omega
      have hg1 : g < wr.heap.size := Nat.lt_of_lt_of_le hg hsz
      clear hT hs hP hx0 hrw hbyte hb hcell hTB
      go_wp2_with fail
      refine (CBT _).mono ?_
      rintro e w1 ⟨rfl, b1⟩
      have c1 := cellKept b1 hck hg1
      have q1 := bstep hnx b1
      have ho1 : OwnStrs w1 w.heap.size u5 pre := own_kept hown b1
      have H3 := three_at (RowB.below HR.out q1) hp
      have hg2 : g < w1.heap.size := Nat.lt_of_lt_of_le hg1 b1.size
      clear b1 hnx hown hck CBT
      go_wp2_with fail
      rw [EP.out]
      refine (HSH _ H3).mono ?_
      rintro e w2 ⟨rfl, b2⟩
      have c2 := cellKept b2 c1 hg2
      have q2 := bstep q1 b2
      have ho2 : OwnStrs w2 w.heap.size u5 pre := own_kept ho1 b2
      clear b2 q1 ho1 c1 HSH H3
      cases hE : T.toList.isEmpty with
      | true =>
        have hs' : s = 1 := by rw [← HS.out, stepAt, HT.out, if_pos hE]
        have HW := Lib.hid (show wordAt L org k = TB by rw [wordAt, HT.out, if_pos hE, ← HTB.out])
        subst hs'
        have HLB := Lib.hid (partLen (L := L) (k := k) (s := 1) hsk)
        have qb := q2
        have hq := ho2
        clear q2 ho2
        have i1 : (0 : Int) ≤ (k : Int) ∧ (k : Int) ≤ (k : Int) + 1 ∧ (k : Int) + 1 ≤ (c : Int) := by omega
        have HB := Lib.hid (rowPart (RowB.below HR.out qb) hp (s := 1) (by omega))
        have hgq : g < w2.heap.size := Nat.lt_of_lt_of_le hg qb.size
        have CL := line_any g (o + k) (c - k) P ((L.drop k).take 1) TB (by rw [HLB.out]; omega) (by rw [HLB.out]; omega) hP2 hTBs w2 HB.out hgq
        rw [HLB.out] at CL
        obtain ⟨LN, hLN⟩ : ∃ LN, strOf (lineL P ((L.drop k).take 1)) ++ TB = LN := ⟨_, rfl⟩
        rw [hLN] at CL
        have HF := Lib.hid (show lineAt L org k = LN by rw [lineAt, HP.out, HS.out, HW.out, hLN])
        clear hLN HB
        go_wp2_with fail
        refine CL.mono ?_
        rintro e w3 ⟨rfl, b3⟩
        have hb3 := bstep qb b3
        have hsz3 := hb3.size
        have hown3 : OwnStrs w3 w.heap.size u5 pre := own_kept hq b3
        clear b3 hq qb CL
        go_wp2_with (at_builtin; refine wpList_append_own _ rfl _ _ 32 rfl w.heap.size 9 i0 (.string ⟨#[]⟩) 1 16 Try.underlying32 hi hz0 hz1 hz2 rfl (by decide) _ _ _ rfl (World.ownsRow.alloc hown3 _) ⟨w3.heap.size, 0, none⟩ 1 1 [.string LN] rfl rfl (cell_one_new _ _ _) ?c2 ?c3 ?c4 ?c5 ?_)
        case c2 => first | rfl | (intro u hu; simp at hu; subst hu; rfl)
        case c3 => unfold maxLen; first | omega | (simp; omega)
        case c4 => first | omega | (simp; omega)
        case c5 => first | omega | (simp; omega)
        intro v' w4 hown' hgrow _
        have hnx1 : Below w.heap.size w w4 := (hb3.alloc hsz3 _).grown hgrow (by simp; omega) (fun j ej => ((World.ownsRow.lt hown3) j ej).1)
        have HO := Lib.hid hown'
        clear hown' hgrow
        go_wp2
        go_roundw
        case rel =>
          refine ⟨k + 1, pre ++ [lineAt L org k], by omega, by simp; omega, by go_num, ?_, hnx1, Lib.hid ?_⟩
          · have := HO.out
            rw [HF.out]
            simpa [OwnStrs] using this
          · rw [← H.out, listFrom_step HR.out.1 hp, HS.out]; simp
        case measure => simp [intOf]; omega
      | false =>
        obtain ⟨z, hz⟩ : ∃ z, opSize x0 = z := ⟨_, rfl⟩
        have hzs : z = (s : Int) := by
          have h1 := textAt_full HR.out.1 hp (by rw [HT.out]; exact hE)
          rw [HX0.out, hz] at h1
          have : s = z.toNat := by rw [← HS.out, stepAt, HT.out, if_neg (by simp [hE]), HX0.out, hz]
          omega
        rw [hz, hzs] at HSZ
        clear hz hzs
        have HW := Lib.hid (show wordAt L org k = T by rw [wordAt, HT.out, if_neg (by simp [hE])])
        have HLB := Lib.hid (partLen (L := L) (k := k) (s := s) hsk)
        have i1 : (0 : Int) ≤ (k : Int) ∧ (k : Int) ≤ (k : Int) + (s : Int) ∧ (k : Int) + (s : Int) ≤ (c : Int) := by omega
        go_wp2_with fail
        refine (HSZ _).mono ?_
        rintro e wq ⟨rfl, bq⟩
        have qb := bstep q2 bq
        have hq : OwnStrs wq w.heap.size u5 pre := own_kept ho2 bq
        clear bq q2 ho2 HSZ c2
        have HB := Lib.hid (rowPart (RowB.below HR.out qb) hp (s := s) (by omega))
        have hgq : g < wq.heap.size := Nat.lt_of_lt_of_le hg qb.size
        have CL := line_any g (o + k) (c - k) P ((L.drop k).take s) T (by rw [HLB.out]; omega) (by rw [HLB.out]; omega) hP2 (by omega) wq HB.out hgq
        rw [HLB.out] at CL
        obtain ⟨LN, hLN⟩ : ∃ LN, strOf (lineL P ((L.drop k).take s)) ++ T = LN := ⟨_, rfl⟩
        rw [hLN] at CL
        have HF := Lib.hid (show lineAt L org k = LN by rw [lineAt, HP.out, HS.out, HW.out, hLN])
        clear hLN HB
        go_wp2_with fail
        refine CL.mono ?_
        rintro e w3 ⟨rfl, b3⟩
        have hb3 := bstep qb b3
        have hsz3 := hb3.size
        have hown3 : OwnStrs w3 w.heap.size u5 pre := own_kept hq b3
        clear b3 hq qb CL
        go_wp2_with (at_builtin; refine wpList_append_own _ rfl _ _ 32 rfl w.heap.size 9 i0 (.string ⟨#[]⟩) 1 16 Try.underlying32 hi hz0 hz1 hz2 rfl (by decide) _ _ _ rfl (World.ownsRow.alloc hown3 _) ⟨w3.heap.size, 0, none⟩ 1 1 [.string LN] rfl rfl (cell_one_new _ _ _) ?c2 ?c3 ?c4 ?c5 ?_)
        case c2 => first | rfl | (intro u hu; simp at hu; subst hu; rfl)
        case c3 => unfold maxLen; first | omega | (simp; omega)
        case c4 => first | omega | (simp; omega)
        case c5 => first | omega | (simp; omega)
        intro v' w4 hown' hgrow _
        have hnx1 : Below w.heap.size w w4 := (hb3.alloc hsz3 _).grown hgrow (by simp; omega) (fun j ej => ((World.ownsRow.lt hown3) j ej).1)
        have HO := Lib.hid hown'
        clear hown' hgrow
        go_wp2
        go_roundw
        case rel =>
          refine ⟨k + s, pre ++ [lineAt L org k], by omega, by simp; omega, by go_num, ?_, hnx1, Lib.hid ?_⟩
          · have := HO.out
            rw [HF.out]
            simpa [OwnStrs] using this
          · rw [← H.out, listFrom_step HR.out.1 hp, HS.out]; simp
        case measure => simp [intOf]; omega
    · obtain rfl : k = L.length := by omega
      have HE : Hid (pre = listFrom L org L.length 0) := Lib.hid (by rw [← H.out, Nat.sub_self, listFrom]; simp)
      go_wp2
      go_ret
      exact ⟨_, rfl, by rw [← HE.out]; exact hown, hnx⟩

set_option maxRecDepth 100000 in
theorem implList_big (a : Option Addr) (c org n : Nat) (hn : (1024 : Int) < n) (w : World) :
    Calls Try.prog 17 #[.slice a n c, .int .u16 org] w fun e w' => e = .returned (.slice none 0 0) ∧ w' = w := by
  go_enter Try.func17, Try.ntmps17
  go_wp2
  go_ret
  exact ⟨rfl, rfl⟩

theorem implList : ImplList := by
  intro a c org L w hc hl ho h
  by_cases hb : 1024 < L.length
  · rw [listing, if_pos hb]
    refine (implList_big a c org L.length (by omega) w).mono ?_
    rintro e w' ⟨rfl, rfl⟩
    exact ⟨_, rfl, World.ownsRow_nil _ _ _ _, Below.refl _ _⟩
  · rw [listing, if_neg hb]
    exact implList_in a c org L (by omega) hc ho w h

end Go.Proofs.Ytffhjoldiicgdaa
