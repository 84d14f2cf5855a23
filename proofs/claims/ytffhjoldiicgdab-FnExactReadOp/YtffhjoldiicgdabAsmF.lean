/-
  Contracts over the program: the bytes of a text's lines (Assemble), the model's.
-/
import Derived.Test.YtffhjoldiicgdabAsmE
namespace Go.Proofs.Ytffhjoldiicgdab
set_option linter.unusedVariables false
set_option linter.unusedSimpArgs false
open Go.RowKit

set_option maxRecDepth 100000 in
set_option maxHeartbeats 16000000 in
theorem specAsm_in (s : ByteArray) (org : Nat) (ho : org < 65536) (hs : s.size ≤ 20000) (w : World) :
    Calls Try.prog 23 #[.string s, .int .u16 org] w fun e w' => ∃ v n, e = .returned (.tuple #[v, .int .i64 n]) ∧ n = (((asmFrom org (linesOf s.data.toList) 0 []).2 : Nat) : Int) ∧ OwnB w' w.heap.size v (asmFrom org (linesOf s.data.toList) 0 []).1 ∧ Below w.heap.size w w' := by
  obtain ⟨i0, hi, hz0, hz1, hz2⟩ := info_parts infoU8
  have hlen : s.data.toList.length = s.size := Array.length_toList
  have hll := line_len s.data.toList
  have hnl : (linesOf s.data.toList).length ≤ s.size + 1 := by
    unfold linesOf
    rw [List.length_take, List.length_map]
    have := cut_length isNl s.data.toList
    omega
  rw [hlen] at hll
  obtain ⟨LN, hLN⟩ : ∃ LN, linesOf s.data.toList = LN := ⟨_, rfl⟩
  rw [hLN] at hll hnl ⊢
  have HLN := Lib.hid hLN
  have HLL := Lib.hid hll
  clear hLN hll hlen
  have hss : ¬ (20000 : Int) < (s.size : Int) := by omega
  go_enter Try.func23, Try.ntmps23
  go_wp2_with fail
  refine (specLines_any s _ (by omega)).mono ?_
  rintro e w1 ⟨v1, rfl, hown1, hb1⟩
  rw [HLN.out] at hown1
  have hsz1 := hb1.size
  obtain ⟨a1, c1, rfl, hcells⟩ := strs_at hown1
  have HC := Lib.hid hcells
  clear hcells hown1
  go_wp2
  go_loopw [7, 8] (fun out i wr => ∃ (j : Nat) (P : List Nat), j ≤ LN.length ∧ P.length ≤ 1024 ∧ i = .int .i64 j ∧ OwnB wr w1.heap.size out P ∧ Below w1.heap.size w1 wr ∧ Hid (asmFrom org (LN.drop j) j P = asmFrom org LN 0 [])) (fun _ i _ => LN.length - (intOf i).toNat)
  case atStart => exact ⟨0, [], Nat.zero_le _, by simp, rfl, ⟨fun i hi => by simp at hi, World.ownsRow_made w1 #[] 0 (Nat.le_refl _) (by decide) rfl⟩, (Below.refl _ _).alloc (Nat.le_refl _) _, Lib.hid rfl⟩
  case round =>
    obtain ⟨j, P, hj, hPl, rfl, hO, hbw, H⟩ := hrel
    have hszr := hbw.size
    by_cases hp : j < LN.length
    · obtain ⟨g, rfl, hg, _, hc⟩ := HC.out (by omega)
      have hcj : wr.cell? ⟨g, j, none⟩ = some (.string (LN.getD j ByteArray.empty)) := (hbw.cell (p := ⟨g, j, none⟩) hg).trans (hc j hp)
      have hxs := HLL.out j
      have HDR := Lib.hid (drop_getD LN j hp)
      obtain ⟨x, hx⟩ : ∃ x, LN.getD j ByteArray.empty = x := ⟨_, rfl⟩
      rw [hx] at hcj hxs HDR
      clear hx hc
      obtain ⟨X, hX⟩ : ∃ X, lineT x.data.toList = X := ⟨_, rfl⟩
      have HLT := Lib.hid hX
      have hXl : X.length ≤ 20002 := by
        have := lineT_len x.data.toList
        have e : x.data.toList.length = x.size := Array.length_toList
        rw [← hX]; omega
      clear hX
      obtain ⟨T, hT⟩ : ∃ T, strOf X = T := ⟨_, rfl⟩
      have hTs : T.size = X.length := by rw [← hT, strOf_size]
      have hTm : T.size ≤ 1048576 := by omega
      have HT := Lib.hid hT
      have HTS := Lib.hid hTs
      clear hT hTs
      have HTD := Lib.hid (show T.data.toList = X by rw [← HT.out]; simp [strOf])
      have ijk : (0 : Int) ≤ (j : Int) ∧ (j : Int) < (LN.length : Int) := by omega
      obtain ⟨ao, co, hvo⟩ := hO.len
      subst hvo
      go_wp2_with fail
      refine (l04Line_any x _ (by omega)).mono ?_
      rintro e w2 ⟨rfl, b2⟩
      rw [HLT.out, HT.out]
      have hb2 : Below w1.heap.size w1 w2 := hbw.trans (b2.mono hszr)
      have hO := hO.below b2
      have hszs := hb2.size
      clear b2 hbw hcj
      cases hE : T.toList.isEmpty with
      | true =>
        have HN := Lib.hid (show asmFrom org (LN.drop j) j P = asmFrom org (LN.drop (j + 1)) (j + 1) P by
          rw [HDR.out, asmFrom, HLT.out, if_pos (by rw [← HTD.out, ← ByteArray.toList_eq]; exact hE)])
        go_wp2
        go_roundw
        case rel => exact ⟨j + 1, P, by omega, hPl, by go_num, hO, hb2, Lib.hid (by rw [← HN.out, H.out])⟩
        case measure => simp [intOf]; omega
      | false =>
        have HST := Lib.hid (show asmFrom org (LN.drop j) j P = (match asmLine X ((org + P.length) % 65536) with
            | none => ([], j + 1)
            | some b => if 1024 < P.length + b.length then ([], j + 1) else asmFrom org (LN.drop (j + 1)) (j + 1) (P ++ b)) by
          rw [HDR.out, asmFrom, HLT.out, if_neg (by rw [← HTD.out, ← ByteArray.toList_eq, hE]; simp)]
          rfl)
        obtain ⟨pc, hpc⟩ : ∃ pc, (org + P.length) % 65536 = pc := ⟨_, rfl⟩
        have hpc2 : pc < 65536 := by omega
        have EP := Lib.hid (show IntKind.u16.wrap ((org : Int) + (P.length : Int)) = (pc : Int) by rw [IntKind.wrap_u16]; omega)
        rw [hpc] at HST
        clear hpc
        go_wp2_with fail
        rw [EP.out]
        refine (specRead_any T pc hpc2 _ hTm).mono ?_
        rintro e w3 ⟨v3, rfl, ho3, b3⟩
        have hb3 : Below w1.heap.size w1 w3 := hb2.trans (b3.mono hszs)
        have hO := hO.below b3
        have hsz3 := hb3.size
        clear b3 hb2
        cases hB : byteLine X with
        | some bb =>
          obtain ⟨y1, y2, y3, y4⟩ := byteLine_some hB
          have t9 : ((T.size : Int) == 9) = true := by rw [HTS.out, y1]; rfl
          have t7 : ((T.extract 0 7).toList == [46, 98, 121, 116, 101, 32, 36]) = true := by
            rw [ByteArray.toList_eq, extract_part, HTD.out]; simp [strOf, y2]
          have hrx : rhex (T.extract 7 T.size) 2 = (bb : Int) := by rw [extract_rest, HTD.out]; exact y3
          have s7 : ¬ (T.size : Int) < 7 := by rw [HTS.out]; omega
          have hEm : (T.extract 7 T.size).size ≤ maxLen := by rw [ByteArray.size_extract]; unfold maxLen; omega
          have HRX := Lib.hid hrx
          have HAL := Lib.hid (show asmLine X pc = some [bb] by unfold asmLine; rw [hB])
          have bb0 : (0 : Int) ≤ (bb : Int) := by omega
          clear hB hrx y1 y2 y3 ho3
          by_cases hov : (1024 : Int) < (P.length : Int) + 1
          · have HN := Lib.hid (show asmFrom org (LN.drop j) j P = ([], j + 1) by rw [HST.out, HAL.out]; simp only [List.length_cons, List.length_nil]; rw [if_pos (by omega)])
            go_wp2_with fail
            refine (specReadHex_any _ _ _ hEm).mono ?_
            rintro e w' ⟨rfl, rfl⟩
            rw [HRX.out]
            go_wp2_with fail
            refine (specReadHex_any _ _ _ hEm).mono ?_
            rintro e w' ⟨rfl, rfl⟩
            rw [HRX.out]
            go_wp2
            go_ret2
            exact ⟨_, _, rfl, by rw [← H.out, HN.out]; rfl, by rw [← H.out, HN.out]; exact ⟨fun i hi => by simp at hi, emptyOwn (w3.alloc (.cells #[.int .u8 bb] 5)) (by simp) (Nat.le_trans (Nat.le_trans hsz1 hsz3) (by simp))⟩, (((hb1.trans (hb3.mono hb1.size)).alloc (by omega) _).alloc (by simp; omega) _)⟩
          · have HN := Lib.hid (show asmFrom org (LN.drop j) j P = asmFrom org (LN.drop (j + 1)) (j + 1) (P ++ [bb]) by rw [HST.out, HAL.out]; simp only [List.length_cons, List.length_nil]; rw [if_neg (by omega)])
            go_wp2_with fail
            refine (specReadHex_any _ _ _ hEm).mono ?_
            rintro e w' ⟨rfl, rfl⟩
            rw [HRX.out]
            go_wp2_with fail
            refine (specReadHex_any _ _ _ hEm).mono ?_
            rintro e w' ⟨rfl, rfl⟩
            rw [HRX.out]
            go_wp2_with (at_builtin; refine wpList_append_own _ rfl _ _ 24 rfl w1.heap.size 5 i0 (.int .u8 0) 1 1 Try.underlying24 hi hz0 hz1 hz2 rfl (by decide) _ _ _ rfl (World.ownsRow.alloc hO.2 _) ⟨w3.heap.size, 0, none⟩ 1 1 [u8V bb] rfl rfl (cell_one_new _ _ _) (by intro u hu; simp at hu; subst hu; rfl) ?c3 ?c4 ?c5 ?_)
            case c3 => unfold maxLen; first | omega | (simp; omega)
            case c4 => first | omega | (simp; omega)
            case c5 => first | omega | (simp; omega)
            intro v' w4 hown' hgrow _
            have hb4 : Below w1.heap.size w1 w4 := (hb3.alloc hsz3 _).grown hgrow (by first | omega | (simp; omega)) (fun j ej => ((World.ownsRow.lt hO.2) j ej).1)
            have HO4 := Lib.hid hown'
            clear hown' hgrow
            go_wp2
            go_roundw
            case rel =>
              refine ⟨j + 1, P ++ [bb], by omega, by simp; omega, by go_num, ⟨fun i hi => ?_, ?_⟩, hb4, Lib.hid (by rw [← HN.out, H.out])⟩
              · exact bytes_app (hO.1) (by simpa using y4) i hi
              · have := HO4.out
                simpa using this
            case measure => simp [intOf]; omega
        | none =>
          have HAL := Lib.hid (show asmLine X pc = readOp T pc by unfold asmLine; rw [hB]; exact congrArg (fun q => readOp q pc) HT.out)
          have hcase : ((T.size : Int) == 9) = false ∨ (((T.size : Int) == 9) = true ∧ ((T.extract 0 7).toList == [46, 98, 121, 116, 101, 32, 36]) = false) ∨ (((T.size : Int) == 9) = true ∧ ((T.extract 0 7).toList == [46, 98, 121, 116, 101, 32, 36]) = true ∧ rhex (T.extract 7 T.size) 2 = -1) := by
            by_cases y1 : X.length = 9
            · have e9 : ((T.size : Int) == 9) = true := by rw [HTS.out, y1]; rfl
              cases e7 : ((T.extract 0 7).toList == [46, 98, 121, 116, 101, 32, 36]) with
              | false => exact .inr (.inl ⟨e9, rfl⟩)
              | true =>
                refine .inr (.inr ⟨e9, rfl, ?_⟩)
                have y2 : X.take 7 = [46, 98, 121, 116, 101, 32, 36] := by
                  have := eq_of_beq e7
                  rw [ByteArray.toList_eq, extract_part, HTD.out] at this
                  simpa [strOf] using this
                have hl : (X.drop 7).length = 2 := by simp; omega
                rw [extract_rest, HTD.out, rhex_yes _ _ ⟨by omega, by omega, by rw [strOf_size, hl]; rfl⟩]
                show rd 16 (X.drop 7) 0 = -1
                rcases rd_neg (X.drop 7) 0 (by omega) with q | q
                · exact q
                · unfold byteLine at hB
                  rw [if_pos ⟨y1, y2, q.1⟩] at hB
                  simp at hB
            · exact .inl (by rw [HTS.out]; simp; omega)
          have s7 : ((T.size : Int) == 9) = true → ¬ (T.size : Int) < 7 := fun h => by simp at h; omega
          have hEm : (T.extract 7 T.size).size ≤ maxLen := by rw [ByteArray.size_extract]; unfold maxLen; omega
          clear hB
          cases hR : readOp T pc with
          | none =>
            have HN := Lib.hid (show asmFrom org (LN.drop j) j P = ([], j + 1) by rw [HST.out, HAL.out, hR])
            rw [hR] at ho3
            clear ho3
            rcases hcase with t9 | ⟨t9, t7⟩ | ⟨t9, t7, hrx⟩
            · clear s7 hEm
              go_wp2
              go_ret2
              exact ⟨_, _, rfl, by rw [← H.out, HN.out]; rfl, by rw [← H.out, HN.out]; exact ⟨fun i hi => by simp at hi, World.ownsRow_made _ #[] 0 (by omega) (by decide) rfl⟩, ((hb1.trans (hb3.mono hb1.size)).alloc (by omega) _)⟩
            · have s7 := s7 t9
              clear hEm
              go_wp2
              go_ret2
              exact ⟨_, _, rfl, by rw [← H.out, HN.out]; rfl, by rw [← H.out, HN.out]; exact ⟨fun i hi => by simp at hi, World.ownsRow_made _ #[] 0 (by omega) (by decide) rfl⟩, ((hb1.trans (hb3.mono hb1.size)).alloc (by omega) _)⟩
            · have s7 := s7 t9
              have HRX := Lib.hid hrx
              clear hrx
              go_wp2_with fail
              refine (specReadHex_any _ _ _ hEm).mono ?_
              rintro e w' ⟨rfl, rfl⟩
              rw [HRX.out]
              go_wp2
              go_ret2
              exact ⟨_, _, rfl, by rw [← H.out, HN.out]; rfl, by rw [← H.out, HN.out]; exact ⟨fun i hi => by simp at hi, World.ownsRow_made _ #[] 0 (by omega) (by decide) rfl⟩, ((hb1.trans (hb3.mono hb1.size)).alloc (by omega) _)⟩
          | some l =>
            have hl1 : 1 ≤ l.length ∧ l.length ≤ 3 := readOp_len hR
            have hlb := ho3.1
            rw [hR] at ho3 hlb
            obtain ⟨g3, c3, rfl, hcl⟩ := ho3.cells (by show 0 < l.length; omega)
            have HCL := Lib.hid hcl
            have HLB := Lib.hid hlb
            clear ho3 hcl hlb
            by_cases hov : (1024 : Int) < (P.length : Int) + (l.length : Int)
            · have HN := Lib.hid (show asmFrom org (LN.drop j) j P = ([], j + 1) by rw [HST.out, HAL.out, hR]; show (if 1024 < P.length + l.length then _ else _) = _; rw [if_pos (by omega)])
              rcases hcase with t9 | ⟨t9, t7⟩ | ⟨t9, t7, hrx⟩
              · clear s7 hEm
                go_wp2
                go_ret2
                exact ⟨_, _, rfl, by rw [← H.out, HN.out]; rfl, by rw [← H.out, HN.out]; exact ⟨fun i hi => by simp at hi, World.ownsRow_made _ #[] 0 (by omega) (by decide) rfl⟩, ((hb1.trans (hb3.mono hb1.size)).alloc (by omega) _)⟩
              · have s7 := s7 t9
                clear hEm
                go_wp2
                go_ret2
                exact ⟨_, _, rfl, by rw [← H.out, HN.out]; rfl, by rw [← H.out, HN.out]; exact ⟨fun i hi => by simp at hi, World.ownsRow_made _ #[] 0 (by omega) (by decide) rfl⟩, ((hb1.trans (hb3.mono hb1.size)).alloc (by omega) _)⟩
              · have s7 := s7 t9
                have HRX := Lib.hid hrx
                clear hrx
                go_wp2_with fail
                refine (specReadHex_any _ _ _ hEm).mono ?_
                rintro e w' ⟨rfl, rfl⟩
                rw [HRX.out]
                go_wp2
                go_ret2
                exact ⟨_, _, rfl, by rw [← H.out, HN.out]; rfl, by rw [← H.out, HN.out]; exact ⟨fun i hi => by simp at hi, World.ownsRow_made _ #[] 0 (by omega) (by decide) rfl⟩, ((hb1.trans (hb3.mono hb1.size)).alloc (by omega) _)⟩
            · have HN := Lib.hid (show asmFrom org (LN.drop j) j P = asmFrom org (LN.drop (j + 1)) (j + 1) (P ++ l) by rw [HST.out, HAL.out, hR]; show (if 1024 < P.length + l.length then _ else _) = _; rw [if_neg (by omega)])
              rcases hcase with t9 | ⟨t9, t7⟩ | ⟨t9, t7, hrx⟩
              · clear s7 hEm
                go_wp2_with (at_builtin; refine wpList_append_own _ rfl _ _ 24 rfl w1.heap.size 5 i0 (.int .u8 0) 1 1 Try.underlying24 hi hz0 hz1 hz2 rfl (by decide) _ _ _ rfl hO.2 ⟨g3, 0, none⟩ l.length c3 (l.map u8V) rfl (by simp) HCL.out (u8V_one l) ?c3 ?c4 ?c5 ?_)
                case c3 => unfold maxLen; first | omega | (simp; omega)
                case c4 => first | omega | (simp; omega)
                case c5 => first | omega | (simp; omega)
                intro v' w4 hown' hgrow _
                have hb4 : Below w1.heap.size w1 w4 := hb3.grown hgrow (by first | omega | (simp; omega)) (fun j ej => ((World.ownsRow.lt hO.2) j ej).1)
                have HO4 := Lib.hid hown'
                clear hown' hgrow
                go_wp2
                go_roundw
                case rel =>
                  refine ⟨j + 1, P ++ l, by omega, by simp; omega, by go_num, ⟨fun i hi => ?_, ?_⟩, hb4, Lib.hid (by rw [← HN.out, H.out])⟩
                  · exact bytes_app (hO.1) (HLB.out) i hi
                  · have := HO4.out
                    simpa using this
                case measure => simp [intOf]; omega
              · have s7 := s7 t9
                clear hEm
                go_wp2_with (at_builtin; refine wpList_append_own _ rfl _ _ 24 rfl w1.heap.size 5 i0 (.int .u8 0) 1 1 Try.underlying24 hi hz0 hz1 hz2 rfl (by decide) _ _ _ rfl hO.2 ⟨g3, 0, none⟩ l.length c3 (l.map u8V) rfl (by simp) HCL.out (u8V_one l) ?c3 ?c4 ?c5 ?_)
                case c3 => unfold maxLen; first | omega | (simp; omega)
                case c4 => first | omega | (simp; omega)
                case c5 => first | omega | (simp; omega)
                intro v' w4 hown' hgrow _
                have hb4 : Below w1.heap.size w1 w4 := hb3.grown hgrow (by first | omega | (simp; omega)) (fun j ej => ((World.ownsRow.lt hO.2) j ej).1)
                have HO4 := Lib.hid hown'
                clear hown' hgrow
                go_wp2
                go_roundw
                case rel =>
                  refine ⟨j + 1, P ++ l, by omega, by simp; omega, by go_num, ⟨fun i hi => ?_, ?_⟩, hb4, Lib.hid (by rw [← HN.out, H.out])⟩
                  · exact bytes_app (hO.1) (HLB.out) i hi
                  · have := HO4.out
                    simpa using this
                case measure => simp [intOf]; omega
              · have s7 := s7 t9
                have HRX := Lib.hid hrx
                clear hrx
                go_wp2_with fail
                refine (specReadHex_any _ _ _ hEm).mono ?_
                rintro e w' ⟨rfl, rfl⟩
                rw [HRX.out]
                go_wp2_with (at_builtin; refine wpList_append_own _ rfl _ _ 24 rfl w1.heap.size 5 i0 (.int .u8 0) 1 1 Try.underlying24 hi hz0 hz1 hz2 rfl (by decide) _ _ _ rfl hO.2 ⟨g3, 0, none⟩ l.length c3 (l.map u8V) rfl (by simp) HCL.out (u8V_one l) ?c3 ?c4 ?c5 ?_)
                case c3 => unfold maxLen; first | omega | (simp; omega)
                case c4 => first | omega | (simp; omega)
                case c5 => first | omega | (simp; omega)
                intro v' w4 hown' hgrow _
                have hb4 : Below w1.heap.size w1 w4 := hb3.grown hgrow (by first | omega | (simp; omega)) (fun j ej => ((World.ownsRow.lt hO.2) j ej).1)
                have HO4 := Lib.hid hown'
                clear hown' hgrow
                go_wp2
                go_roundw
                case rel =>
                  refine ⟨j + 1, P ++ l, by omega, by simp; omega, by go_num, ⟨fun i hi => ?_, ?_⟩, hb4, Lib.hid (by rw [← HN.out, H.out])⟩
                  · exact bytes_app (hO.1) (HLB.out) i hi
                  · have := HO4.out
                    simpa using this
                case measure => simp [intOf]; omega
    · obtain rfl : j = LN.length := by omega
      have HN := Lib.hid (show asmFrom org (LN.drop LN.length) LN.length P = (P, 0) by rw [List.drop_length]; rfl)
      go_wp2
      go_ret2
      exact ⟨_, _, rfl, by rw [← H.out, HN.out]; rfl, by rw [← H.out, HN.out]; exact hO.base hsz1, hb1.trans (hbw.mono hb1.size)⟩

theorem specAsm_any (s : ByteArray) (org : Nat) (ho : org < 65536) (w : World) (hs : s.size ≤ 1048576) :
    Calls Try.prog 23 #[.string s, .int .u16 org] w fun e w' => ∃ v, e = .returned (.tuple #[v, .int .i64 (((assemble s org).2 : Nat) : Int)]) ∧ OwnB w' w.heap.size v (assemble s org).1 ∧ Below w.heap.size w w' := by
  by_cases hb : 20000 < s.size
  · have hr : assemble s org = ([], 1) := if_pos hb
    rw [hr]
    have hb' : (20000 : Int) < (s.size : Int) := by omega
    clear hr
    go_enter Try.func23, Try.ntmps23
    go_wp2
    go_ret2
    exact ⟨_, rfl, ⟨fun i hi => by simp at hi, World.ownsRow_made w #[] 0 (Nat.le_refl _) (by decide) rfl⟩, (Below.refl _ _).alloc (Nat.le_refl _) _⟩
  · have hr : assemble s org = asmFrom org (linesOf s.data.toList) 0 [] := if_neg hb
    rw [hr]
    refine (specAsm_in s org ho (by omega) w).mono ?_
    rintro e w' ⟨v, n, rfl, rfl, h1, h2⟩
    exact ⟨v, rfl, h1, h2⟩

end Go.Proofs.Ytffhjoldiicgdab
