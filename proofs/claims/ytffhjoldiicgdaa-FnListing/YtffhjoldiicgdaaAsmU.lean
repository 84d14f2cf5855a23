/-
  Contracts over the program: the bytes of a text's lines (impl.Assemble).
-/
import Derived.Test.YtffhjoldiicgdaaAsmS
import Derived.Laws.AppendOwnNone
import Derived.WalkMore
import Derived.ScopeJumps
namespace Go.Proofs.Ytffhjoldiicgdaa
set_option linter.unusedVariables false
set_option linter.unusedSimpArgs false
open Go.RowKit

theorem asmFrom_skip {org j : Nat} {x : ByteArray} {r : List ByteArray} {P : List Nat} (h : (lineT x.data.toList).isEmpty = true) : asmFrom org (x :: r) j P = asmFrom org r (j + 1) P := by
  rw [asmFrom, if_pos h]

theorem asmFrom_none {org j : Nat} {x : ByteArray} {r : List ByteArray} {P : List Nat} (h : (lineT x.data.toList).isEmpty = false) (ha : asmLine (lineT x.data.toList) ((org + P.length) % 65536) = none) : asmFrom org (x :: r) j P = ([], j + 1) := by
  rw [asmFrom, if_neg (by simp [h]), ha]

theorem asmFrom_some {org j : Nat} {x : ByteArray} {r : List ByteArray} {P l : List Nat} (h : (lineT x.data.toList).isEmpty = false) (ha : asmLine (lineT x.data.toList) ((org + P.length) % 65536) = some l) : asmFrom org (x :: r) j P = if 1024 < P.length + l.length then ([], j + 1) else asmFrom org r (j + 1) (P ++ l) := by
  rw [asmFrom, if_neg (by simp [h]), ha]

theorem asmLine_len {x : List UInt8} {pc : Nat} {l : List Nat} (h : asmLine x pc = some l) : 1 ≤ l.length ∧ l.length ≤ 3 := by
  unfold asmLine at h
  split at h
  · simp at h; subst h; simp
  · exact readOp_len h

/-- Where a line doesn't fit: its number, and nothing else that is looked at. -/
def Refused (s : ByteArray) (org : Nat) (q : Int) (a : Act) : Prop :=
  ∃ u2 u3 u6 u8 u9 u10 u11 u12 u13 u14 u15 u16 u17 u18 u19 u20 u21 u22 u23 u24 u25 u26 u27 u28 u29 u30 u31 u32 u33 u34 u35 u36 u37 u38 u39 u40 u41 u42 u43 u44 u45 u46 u47 u48 u49 u50 : Value, a = { tmps := #[.string s, .int .u16 (org : Int), u2, u3, .slice none 0 0, .int .i64 0, u6, .int .i64 q, u8, u9, u10, u11, u12, u13, u14, u15, u16, u17, u18, u19, u20, u21, u22, u23, u24, u25, u26, u27, u28, u29, u30, u31, u32, u33, u34, u35, u36, u37, u38, u39, u40, u41, u42, u43, u44, u45, u46, u47, u48, u49, u50], defers := [] }

theorem jump_ret {l : Nat} {J : Act → World → Prop} {Q : Exit → Act → World → Prop} {a : Act} {w : World} : Exit.jump l J Q .ret a w = Q .ret a w := rfl
theorem jump_goto {l : Nat} {J : Act → World → Prop} {Q : Exit → Act → World → Prop} {a : Act} {w : World} : Exit.jump l J Q (.goto l) a w = (l = l ∧ J a w) := rfl

set_option maxRecDepth 100000 in
set_option maxHeartbeats 16000000 in
theorem implAsm_in (s : ByteArray) (org : Nat) (ho : org < 65536) (hs : s.size ≤ 20000) (w : World) :
    Calls Try.prog 18 #[.string s, .int .u16 org] w fun e w' => ∃ v n, e = .returned (.tuple #[v, .int .i64 n]) ∧ n = (((asmFrom org (linesOf s.data.toList) 0 []).2 : Nat) : Int) ∧ OwnB w' w.heap.size v (asmFrom org (linesOf s.data.toList) 0 []).1 ∧ Below w.heap.size w w' := by
  obtain ⟨i0, hi, hz0, hz1, hz2⟩ := info_parts infoU8
  have hlen : s.data.toList.length = s.size := Array.length_toList
  have hll := line_len s.data.toList
  have hnl : (linesOf s.data.toList).length ≤ s.size + 1 := by
    unfold linesOf
    rw [List.length_take, List.length_map]
    have := cut_length isNl s.data.toList
    omega
  rw [hlen] at hll
  obtain ⟨LN, hLN⟩ : ∃ LN, linesOf s.data.toList = LN := ⟨_, rfl⟩
  rw [hLN] at hll hnl ⊢
  have HLN := Lib.hid hLN
  have HLL := Lib.hid hll
  clear hLN hll hlen
  have hss : ¬ (20000 : Int) < (s.size : Int) := by omega
  go_enter Try.func18, Try.ntmps18
  go_wp2
  refine wp_scope_jumps 0 (fun a' w' => ∃ q : Int, Refused s org q a' ∧ q = (((asmFrom org LN 0 []).2 : Nat) : Int) ∧ (asmFrom org LN 0 []).1 = [] ∧ Below w.heap.size w w') (fun _ _ => 0) rfl ?first ?pass
  case pass =>
    rintro a' w' ⟨q, ⟨u2, u3, u6, u8, u9, u10, u11, u12, u13, u14, u15, u16, u17, u18, u19, u20, u21, u22, u23, u24, u25, u26, u27, u28, u29, u30, u31, u32, u33, u34, u35, u36, u37, u38, u39, u40, u41, u42, u43, u44, u45, u46, u47, u48, u49, u50, rfl⟩, hq, hn, hbq⟩
    go_wp2
    rw [jump_ret]
    go_ret2
    exact ⟨_, _, rfl, hq, by rw [hn]; exact ownNil _ _, hbq⟩
  go_wp2_with fail
  refine (implLines_any s _ (by omega)).mono ?_
  rintro e w1 ⟨v1, rfl, hown1, hb1⟩
  rw [HLN.out] at hown1
  have hsz1 := hb1.size
  obtain ⟨a1, c1, rfl, hcells⟩ := strs_at hown1
  have HC := Lib.hid hcells
  clear hcells hown1
  go_wp2
  go_loopw [6, 7, 18] (fun out q i wr => ∃ (j : Nat) (P : List Nat) (q0 : Int), j ≤ LN.length ∧ P.length ≤ 1024 ∧ i = .int .i64 j ∧ q = .int .i64 q0 ∧ OwnB wr w1.heap.size out P ∧ Below w1.heap.size w1 wr ∧ Hid (asmFrom org (LN.drop j) j P = asmFrom org LN 0 [])) (fun _ _ i _ => LN.length - (intOf i).toNat)
  case atStart => exact ⟨0, [], 1, Nat.zero_le _, by simp, rfl, rfl, ownNil _ _, Below.refl _ _, Lib.hid rfl⟩
  case round =>
    obtain ⟨j, P, q0, hj, hPl, rfl, rfl, hO, hbw, H⟩ := hrel
    have hszr := hbw.size
    by_cases hp : j < LN.length
    · obtain ⟨g, rfl, hg, _, hc⟩ := HC.out (by omega)
      have hcj : wr.cell? ⟨g, j, none⟩ = some (.string (LN.getD j ByteArray.empty)) := (hbw.cell (p := ⟨g, j, none⟩) hg).trans (hc j hp)
      have hxs := HLL.out j
      have HDR := Lib.hid (drop_getD LN j hp)
      obtain ⟨x, hx⟩ : ∃ x, LN.getD j ByteArray.empty = x := ⟨_, rfl⟩
      rw [hx] at hcj hxs HDR
      clear hx hc
      have ijk : (0 : Int) ≤ (j : Int) ∧ (j : Int) < (LN.length : Int) := by omega
      obtain ⟨ao, co, hvo⟩ := hO.len
      subst hvo
      obtain ⟨pc, hpc⟩ : ∃ pc, (org + P.length) % 65536 = pc := ⟨_, rfl⟩
      have hpc2 : pc < 65536 := by omega
      have EP := Lib.hid (show IntKind.u16.wrap ((org : Int) + (P.length : Int)) = (pc : Int) by rw [IntKind.wrap_u16]; omega)
      have HPC := Lib.hid hpc
      clear hpc
      go_wp2_with fail
      rw [EP.out]
      refine (lineBytes_any x pc (by omega) hpc2 _).mono ?_
      rintro e w2 ⟨b2, hcase⟩
      have hb2 : Below w1.heap.size w1 w2 := hbw.trans (b2.mono hszr)
      have hO := hO.below b2
      have hszs := hb2.size
      rcases hcase with ⟨hE, rfl⟩ | ⟨hE, v2, rfl, ho2⟩
      · have HN := Lib.hid (show asmFrom org (LN.drop j) j P = asmFrom org (LN.drop (j + 1)) (j + 1) P by rw [HDR.out, asmFrom_skip hE])
        clear hE b2 hbw hcj
        have t1 : ¬ (1024 : Int) < (P.length : Int) + 0 := by omega
        have t2 : ¬ (1024 : Int) < (P.length : Int) := by omega
        go_wp2_with (at_builtin; refine wpList_append_own_none rfl _ _ 22 rfl w1.heap.size 5 i0 1 Try.underlying22 hi _ _ _ rfl hO.2 rfl ?_)
        go_wp2
        go_roundw
        case rel => exact ⟨j + 1, P, _, by omega, hPl, by go_num, rfl, hO, hb2, Lib.hid (by rw [← HN.out, H.out])⟩
        case measure => simp [intOf]; omega
      · cases hA : asmLine (lineT x.data.toList) pc with
        | none =>
          have HN := Lib.hid (show asmFrom org (LN.drop j) j P = ([], j + 1) by rw [HDR.out, asmFrom_none hE (by rw [HPC.out]; exact hA)])
          rw [hA] at ho2
          obtain ⟨a2, c2, hv2⟩ := ho2.len
          subst hv2
          clear hE b2 hbw hcj ho2 hA
          go_wp2
          go_step3
          exact ⟨rfl, _, ⟨_, _, _, _, _, _, _, _, _, _, _, _, _, _, _, _, _, _, _, _, _, _, _, _, _, _, _, _, _, _, _, _, _, _, _, _, _, _, _, _, _, _, _, _, _, _, rfl⟩, by rw [← H.out, HN.out]; go_num, by rw [← H.out, HN.out], hb1.trans (hb2.mono hb1.size)⟩
        | some l =>
          have hl1 := asmLine_len hA
          have hlb := ho2.1
          rw [hA] at ho2 hlb
          obtain ⟨g3, c3, rfl, hcl⟩ := ho2.cells (by show 0 < l.length; omega)
          have HS := Lib.hid (show asmFrom org (LN.drop j) j P = if 1024 < P.length + l.length then ([], j + 1) else asmFrom org (LN.drop (j + 1)) (j + 1) (P ++ l) by rw [HDR.out, asmFrom_some hE (by rw [HPC.out]; exact hA)])
          have HCL := Lib.hid hcl
          have HLB := Lib.hid hlb
          clear hE b2 hbw hcj ho2 hA hcl hlb
          by_cases hov : (1024 : Int) < (P.length : Int) + (l.length : Int)
          · have HN := Lib.hid (HS.out.trans (if_pos (show 1024 < P.length + l.length by omega)))
            go_wp2
            go_step3
            exact ⟨rfl, _, ⟨_, _, _, _, _, _, _, _, _, _, _, _, _, _, _, _, _, _, _, _, _, _, _, _, _, _, _, _, _, _, _, _, _, _, _, _, _, _, _, _, _, _, _, _, _, _, rfl⟩, by rw [← H.out, HN.out]; go_num, by rw [← H.out, HN.out], hb1.trans (hb2.mono hb1.size)⟩
          · have HN := Lib.hid (HS.out.trans (if_neg (show ¬ 1024 < P.length + l.length by omega)))
            go_wp2_with (at_builtin; refine wpList_append_own _ rfl _ _ 22 rfl w1.heap.size 5 i0 (.int .u8 0) 1 1 Try.underlying22 hi hz0 hz1 hz2 rfl (by decide) _ _ _ rfl hO.2 ⟨g3, 0, none⟩ l.length c3 (l.map u8V) rfl (by simp) HCL.out (u8V_one l) ?c3 ?c4 ?c5 ?_)
            case c3 => unfold maxLen; first | omega | (simp; omega)
            case c4 => first | omega | (simp; omega)
            case c5 => first | omega | (simp; omega)
            intro v' w4 hown' hgrow _
            have hb4 : Below w1.heap.size w1 w4 := hb2.grown hgrow (by first | omega | (simp; omega)) (fun j ej => ((World.ownsRow.lt hO.2) j ej).1)
            have HO4 := Lib.hid hown'
            clear hown' hgrow
            go_wp2
            go_roundw
            case rel =>
              refine ⟨j + 1, P ++ l, _, by omega, by simp; omega, by go_num, rfl, ⟨fun i hi => ?_, ?_⟩, hb4, Lib.hid (by rw [← HN.out, H.out])⟩
              · exact bytes_app (hO.1) (HLB.out) i hi
              · have := HO4.out
                simpa using this
            case measure => simp [intOf]; omega
    · obtain rfl : j = LN.length := by omega
      have HN := Lib.hid (show asmFrom org (LN.drop LN.length) LN.length P = (P, 0) by rw [List.drop_length]; rfl)
      go_wp2
      rw [jump_ret]
      go_ret2
      exact ⟨_, _, rfl, by rw [← H.out, HN.out]; rfl, by rw [← H.out, HN.out]; exact hO.base hsz1, hb1.trans (hbw.mono hb1.size)⟩

theorem implAsm : ImplAsm := by
  intro s org w ho hs
  by_cases hb : 20000 < s.size
  · have hr : assemble s org = ([], 1) := if_pos hb
    rw [hr]
    have hb' : (20000 : Int) < (s.size : Int) := by omega
    clear hr
    go_enter Try.func18, Try.ntmps18
    go_wp2
    refine wp_scope_jumps 0 (fun a' w' => Refused s org 1 a' ∧ w' = w) (fun _ _ => 0) rfl ?first ?pass
    case pass =>
      rintro a' w' ⟨⟨u2, u3, u6, u8, u9, u10, u11, u12, u13, u14, u15, u16, u17, u18, u19, u20, u21, u22, u23, u24, u25, u26, u27, u28, u29, u30, u31, u32, u33, u34, u35, u36, u37, u38, u39, u40, u41, u42, u43, u44, u45, u46, u47, u48, u49, u50, rfl⟩, rfl⟩
      go_wp2
      rw [jump_ret]
      go_ret2
      exact ⟨_, rfl, ownNil _ _, Below.refl _ _⟩
    go_wp2
    go_step3
    exact ⟨rfl, ⟨_, _, _, _, _, _, _, _, _, _, _, _, _, _, _, _, _, _, _, _, _, _, _, _, _, _, _, _, _, _, _, _, _, _, _, _, _, _, _, _, _, _, _, _, _, _, rfl⟩, rfl⟩
  · have hr : assemble s org = asmFrom org (linesOf s.data.toList) 0 [] := if_neg hb
    rw [hr]
    refine (implAsm_in s org ho (by omega) w).mono ?_
    rintro e w' ⟨v, n, rfl, rfl, h1, h2⟩
    exact ⟨v, rfl, h1, h2⟩

end Go.Proofs.Ytffhjoldiicgdaa
