/-
  Contracts over the program: a listing of bytes (Listing), the model's.
-/
import Derived.Test.YtffhjoldiicgdabAsmText
import Derived.Test.YtffhjoldiicgdabSpecCut
namespace Go.Proofs.Ytffhjoldiicgdab
set_option linter.unusedVariables false
set_option linter.unusedSimpArgs false
open Go.RowKit

/-- Bytes as digits, each with a blank ahead. -/
def bytesL : List Nat → List UInt8
  | [] => []
  | b :: r => 32 :: hexL 2 b ++ bytesL r

def padL (l : List UInt8) : List UInt8 := l ++ List.replicate (15 - l.length) 32

def lineL (pc : Nat) (bs : List Nat) : List UInt8 := padL (hexL 4 pc ++ [58] ++ bytesL bs)

def textAt (L : List Nat) (org k : Nat) : ByteArray := showOp (L.length - k) (L.getD k 0) (L.getD (k + 1) 0) (L.getD (k + 2) 0) ((org + k) % 65536)

def stepAt (L : List Nat) (org k : Nat) : Nat := if (textAt L org k).toList.isEmpty then 1 else (opSize (L.getD k 0)).toNat

def wordAt (L : List Nat) (org k : Nat) : ByteArray := if (textAt L org k).toList.isEmpty then ⟨#[46, 98, 121, 116, 101, 32, 36]⟩ ++ strOf (hexL 2 (L.getD k 0)) else textAt L org k

def lineAt (L : List Nat) (org k : Nat) : ByteArray := strOf (lineL ((org + k) % 65536) ((L.drop k).take (stepAt L org k))) ++ wordAt L org k

def listFrom (L : List Nat) (org : Nat) : Nat → Nat → List ByteArray
  | 0, _ => []
  | f + 1, k => if k < L.length then lineAt L org k :: listFrom L org f (k + stepAt L org k) else []

def listing (L : List Nat) (org : Nat) : List ByteArray := if 1024 < L.length then [] else listFrom L org L.length 0

theorem empty_iff (s : ByteArray) : s.toList.isEmpty = decide (s.size = 0) := by
  rw [ByteArray.toList_eq]
  cases h : s.data.toList.isEmpty with
  | true => 
    have : s.data.toList = [] := by simpa using h
    have h2 : s.size = 0 := by show s.data.size = 0; rw [← Array.length_toList, this]; rfl
    simp [h2]
  | false =>
    have h2 : s.size ≠ 0 := fun e => by
      have : s.data.toList.length = 0 := by rw [Array.length_toList]; exact e
      rw [List.length_eq_zero_iff] at this
      rw [this] at h
      simp at h
    simp [h2]

theorem textAt_full {L : List Nat} {org k : Nat} (hb : ∀ i, i < L.length → L.getD i 0 < 256) (hk : k < L.length) (h : (textAt L org k).toList.isEmpty = false) :
    1 ≤ opSize (L.getD k 0) ∧ opSize (L.getD k 0) ≤ 3 ∧ k + (opSize (L.getD k 0)).toNat ≤ L.length := by
  have h3 := (opSize_range (hb k hk))
  unfold textAt showOp at h
  split at h
  · rw [empty_iff] at h; simp at h
  · omega

theorem stepAt_pos {L : List Nat} {org k : Nat} (hb : ∀ i, i < L.length → L.getD i 0 < 256) (hk : k < L.length) : 1 ≤ stepAt L org k ∧ stepAt L org k ≤ 3 ∧ k + stepAt L org k ≤ L.length := by
  unfold stepAt
  split
  · omega
  · rename_i h
    have := textAt_full hb hk (by simpa using h)
    omega

theorem listFrom_fuel {L : List Nat} {org : Nat} (hb : ∀ i, i < L.length → L.getD i 0 < 256) : ∀ (f f' k : Nat), L.length ≤ k + f → L.length ≤ k + f' → listFrom L org f k = listFrom L org f' k
  | 0, 0, k, _, _ => rfl
  | 0, f' + 1, k, h, _ => by rw [listFrom, listFrom, if_neg (by omega)]
  | f + 1, 0, k, _, h => by rw [listFrom, listFrom, if_neg (by omega)]
  | f + 1, f' + 1, k, h1, h2 => by
    rw [listFrom, listFrom]
    by_cases hk : k < L.length
    · rw [if_pos hk, if_pos hk]
      have := stepAt_pos (org := org) hb hk
      rw [listFrom_fuel hb f f' _ (by omega) (by omega)]
    · rw [if_neg hk, if_neg hk]

theorem listFrom_step {L : List Nat} {org k : Nat} (hb : ∀ i, i < L.length → L.getD i 0 < 256) (hk : k < L.length) : listFrom L org (L.length - k) k = lineAt L org k :: listFrom L org (L.length - (k + stepAt L org k)) (k + stepAt L org k) := by
  obtain ⟨f, hf⟩ : ∃ f, L.length - k = f + 1 := ⟨L.length - k - 1, by omega⟩
  have := stepAt_pos (org := org) hb hk
  rw [hf, listFrom, if_pos hk, listFrom_fuel hb f (L.length - (k + stepAt L org k)) _ (by omega) (by omega)]

theorem bytesL_step (bs : List Nat) (j : Nat) (h : j < bs.length) : bytesL (bs.take (j + 1)) = bytesL (bs.take j) ++ (32 :: hexL 2 (bs.getD j 0)) := by
  induction bs generalizing j with
  | nil => simp at h
  | cons b r ih =>
    cases j with
    | zero => simp [bytesL]
    | succ j =>
      have := ih j (by simpa using h)
      simp only [List.take_succ_cons, bytesL, this]
      simp [List.getD]

theorem bytesL_len (bs : List Nat) : (bytesL bs).length = 3 * bs.length := by
  induction bs with
  | nil => rfl
  | cons b r ih => simp [bytesL, hexL_length, ih]; omega

def szOf : Value → Nat
  | .string x => x.size
  | _ => 0

theorem own_kept {w w' : World} {base : Nat} {v : Value} {L : List ByteArray} (h : OwnStrs w base v L) (hb : Below w.heap.size w w') : OwnStrs w' base v L := by
  refine World.ownsRow.kept h (row := none) ⟨hb.os, hb.tape, hb.output, hb.size, fun i hi _ => hb.block i hi⟩ ?_
  cases v.ownBlock with
  | none => exact .inl rfl
  | some g => exact .inr (by simp)

theorem strOf_append (a b : List UInt8) : strOf a ++ strOf b = strOf (a ++ b) := by
  apply ByteArray.ext
  simp [strOf, ByteArray.data_append]

theorem hexText_named (x d : Nat) (hx : x ≤ 65536) (h1 : 1 ≤ d) (h8 : d ≤ 8) : ∃ t : ByteArray, t.size = d ∧ Hid (t = strOf (hexL d x)) ∧ ∀ w, Calls Try.prog 28 #[.int .i64 x, .int .i64 d] w fun e w' => e = .returned (.string t) ∧ w = w' :=
  ⟨_, hexL_size d x, Lib.hid rfl, fun w => specHexText_yes x d (by omega) h1 h8 w⟩

theorem RowB.byte {w : World} {a : Option Addr} {L : List Nat} (h : RowB w a L) (i : Nat) : L.getD i 0 < 256 := by
  by_cases hi : i < L.length
  · exact h.1 i hi
  · simp [List.getD, List.getElem?_eq_none (by omega : L.length ≤ i)]

theorem three_at {w : World} {g o : Nat} {L : List Nat} {k : Nat} (h : RowB w (some ⟨g, o, none⟩) L) (hk : k < L.length) : Three w (some ⟨g, o + k, none⟩) (L.length - k) (L.getD k 0) (L.getD (k + 1) 0) (L.getD (k + 2) 0) := by
  obtain ⟨g', o', e, hg, hc⟩ := h.2 (by omega)
  simp only [Option.some.injEq, Addr.mk.injEq, and_true] at e
  obtain ⟨rfl, rfl⟩ := e
  exact .inr ⟨g, o + k, rfl, hg, hc k hk, fun h2 => hc (k + 1) (by omega), fun h3 => hc (k + 2) (by omega)⟩

theorem RowB.cell {w : World} {g o : Nat} {L : List Nat} (h : RowB w (some ⟨g, o, none⟩) L) {k : Nat} (hk : k < L.length) : w.cell? ⟨g, o + k, none⟩ = some (.int .u8 (L.getD k 0 : Nat)) := by
  obtain ⟨g', o', e, hg, hc⟩ := h.2 (by omega)
  simp only [Option.some.injEq, Addr.mk.injEq, and_true] at e
  obtain ⟨rfl, rfl⟩ := e
  exact hc k hk

set_option maxRecDepth 100000 in
set_option maxHeartbeats 16000000 in
theorem specList_in (a : Option Addr) (c org : Nat) (L : List Nat) (hL : L.length ≤ 1024) (hc : L.length ≤ c) (ho : org < 65536) (w : World) (h : RowB w a L) :
    Calls Try.prog 18 #[.slice a L.length c, .int .u16 org] w fun e w' => ∃ v, e = .returned v ∧ OwnStrs w' w.heap.size v (listFrom L org L.length 0) ∧ Below w.heap.size w w' := by
  obtain ⟨i0, hi, hz0, hz1, hz2⟩ := info_parts infoStr
  have HR := Lib.hid h
  clear h
  go_enter Try.func18, Try.ntmps18
  go_wp2
  go_loopw [5, 6] (fun out i wr => ∃ (k : Nat) (pre : List ByteArray), k ≤ L.length ∧ pre.length ≤ k ∧ i = .int .i64 k ∧ OwnStrs wr w.heap.size out pre ∧ Below w.heap.size w wr ∧ Hid (pre ++ listFrom L org (L.length - k) k = listFrom L org L.length 0)) (fun _ i _ => L.length - (intOf i).toNat)
  case atStart => exact ⟨0, [], Nat.zero_le _, Nat.le_refl _, rfl, World.ownsRow_made w #[] 0 (Nat.le_refl _) (by decide) rfl, (Below.refl _ _).alloc (Nat.le_refl _) _, Lib.hid rfl⟩
  case round =>
    obtain ⟨k, pre, hk, hpl, rfl, hown, hnx, H⟩ := hrel
    have hsz := hnx.size
    by_cases hp : k < L.length
    · obtain ⟨g, o, rfl, hg, hcell⟩ := HR.out.2 (by omega)
      have hb := HR.out.1
      have hbyte := HR.out.byte
      obtain ⟨P, hP⟩ : ∃ P, (org + k) % 65536 = P := ⟨_, rfl⟩
      have EP := Lib.hid (show IntKind.u16.wrap ((org : Int) + (k : Int)) = (P : Int) by rw [IntKind.wrap_u16]; omega)
      have hP2 : P < 65536 := by omega
      have hrw := HR.out.below hnx
      have H3 := three_at hrw hp
      obtain ⟨s, hs⟩ : ∃ s, stepAt L org k = s := ⟨_, rfl⟩
      obtain ⟨hs1, hs3, hsk⟩ := stepAt_pos (org := org) HR.out.1 hp
      rw [hs] at hs1 hs3 hsk
      obtain ⟨T, hT⟩ : ∃ T, textAt L org k = T := ⟨_, rfl⟩
      have HSH := fun w h => specShow_any (some ⟨g, o + k, none⟩) (L.length - k) (c - k) (L.getD k 0) (L.getD (k + 1) 0) (L.getD (k + 2) 0) P (hbyte _) (hbyte _) (hbyte _) hP2 w h
      rw [show showOp (L.length - k) (L.getD k 0) (L.getD (k + 1) 0) (L.getD (k + 2) 0) P = T by rw [← hT, textAt, hP]] at HSH
      have HSZ := fun w => specSize_any (L.getD k 0) (hbyte _) w
      obtain ⟨tx, htx, HTX, CTX⟩ := hexText_named (L.getD k 0) 2 (by have := hbyte k; omega) (by omega) (by omega)
      obtain ⟨tp, htp, HTP, CTP⟩ := hexText_named P 4 (by omega) (by omega) (by omega)
      have hck := hrw.cell hp
      obtain ⟨x0, hx0⟩ : ∃ x0, L.getD k 0 = x0 := ⟨_, rfl⟩
      rw [hx0] at hck HSZ CTX
      have hx02 : x0 < 256 := by rw [← hx0]; exact hbyte k
      have hTs : T.size ≤ 12 := by
        rw [← hT, textAt, showOp]
        split
        · simp
        · rename_i hne
          have hid : opId (L.getD k 0) ≠ 0 := fun e => hne (.inr (.inl (by unfold opSize; rw [if_pos e])))
          exact (show_size (hbyte k) hid).2
      have HT := Lib.hid hT
      have HS := Lib.hid hs
      have HP := Lib.hid hP
      have HX0 := Lib.hid hx0
      have i0k : (0 : Int) ≤ (k : Int) ∧ (k : Int) < (L.length : Int) := by omega
      clear hT hs hP hx0 hrw hbyte hb hcell
      cases hE : T.toList.isEmpty with
      | true =>
        have hs' : s = 1 := by rw [← HS.out, stepAt, HT.out, if_pos hE]
        have HW := Lib.hid (show wordAt L org k = ⟨#[46, 98, 121, 116, 101, 32, 36]⟩ ++ tx by rw [wordAt, HT.out, if_pos hE, HTX.out])
        subst hs'
        go_wp2_with fail
        rw [EP.out]
        refine (HSH _ H3).mono ?_
        rintro e w1 ⟨rfl, b1⟩
        have hg1 : g < wr.heap.size := Nat.lt_of_lt_of_le hg hsz
        have c1 := cellKept b1 hck hg1
        have hb1 : Below w.heap.size w w1 := hnx.trans (b1.mono hsz)
        go_wp2_with fail
        refine (HSZ _).mono ?_
        rintro e w2 ⟨rfl, b2⟩
        have c2 := cellKept b2 c1 (Nat.lt_of_lt_of_le hg1 b1.size)
        have hb2 : Below w.heap.size w w2 := hb1.trans (b2.mono hb1.size)
        have hsz2 := hb2.size
        have hown2 : OwnStrs w2 w.heap.size u5 pre := own_kept (own_kept hown b1) b2
        have HR2 := Lib.hid (HR.out.below hb2)
        clear b1 b2 hb1 hnx hown H3 HSH HSZ c1 hck
        go_wp2_with fail
        refine (CTX _).mono ?_
        rintro e w' ⟨rfl, rfl⟩
        go_wp2_with fail
        refine (CTP _).mono ?_
        rintro e w' ⟨rfl, rfl⟩
        go_wp2
        go_loop [10, 11] (fun ln kk => ∃ (j : Nat) (S : ByteArray), j ≤ 1 ∧ S.size = 5 + 3 * j ∧ kk = .int .i64 j ∧ ln = .string S ∧ Hid (S = strOf (hexL 4 P ++ [58] ++ bytesL (((L.drop k).take 1).take j)))) (fun _ kk => 1 - (intOf kk).toNat)
        case atStart => exact ⟨0, _, Nat.zero_le _, by rw [ByteArray.size_append, htp]; rfl, rfl, rfl, Lib.hid (by rw [HTP.out, show (⟨#[58]⟩ : ByteArray) = strOf [58] from rfl, strOf_append]; simp [bytesL])⟩
        case round =>
          obtain ⟨j, S, hj, hS, rfl, rfl, HS2⟩ := hrel
          by_cases hjs : j < 1
          · have hkj : k + j < L.length := by omega
            obtain ⟨ty, hty, HTY, CTY⟩ := hexText_named (L.getD (k + j) 0) 2 (by have := HR2.out.byte (k + j); omega) (by omega) (by omega)
            have cj := HR2.out.cell hkj
            obtain ⟨y, hy⟩ : ∃ y, L.getD (k + j) 0 = y := ⟨_, rfl⟩
            rw [hy] at cj CTY
            have hy2 : y < 256 := by rw [← hy]; exact HR2.out.byte _
            have HY := Lib.hid hy
            clear hy
            have ikj : (0 : Int) ≤ (k : Int) + (j : Int) ∧ (k : Int) + (j : Int) < (L.length : Int) := by omega
            go_wp2_with fail
            refine (CTY _).mono ?_
            rintro e w' ⟨rfl, rfl⟩
            go_wp2
            go_round
            case rel =>
              refine ⟨j + 1, _, by omega, by rw [ByteArray.size_append, ByteArray.size_append, hty, hS]; show 5 + 3 * j + 1 + 2 = _; omega, by go_num, rfl, Lib.hid ?_⟩
              have hlen : ((L.drop k).take 1).length = 1 := by simp; omega
              have hgd : ((L.drop k).take 1).getD j 0 = L.getD (k + j) 0 := by simp [List.getD, List.getElem?_take, hjs, List.getElem?_drop]
              rw [bytesL_step _ j (by rw [hlen]; exact hjs), hgd, HS2.out, HTY.out, show (⟨#[32]⟩ : ByteArray) = strOf [32] from rfl, strOf_append, strOf_append]
              simp
            case measure => simp [intOf]; omega
          · go_wp2
            go_loop [10] (fun ln => ∃ (t : Nat) (S : ByteArray), S.size = 5 + 3 * 1 + t ∧ S.size ≤ 15 ∧ ln = .string S ∧ Hid (S = strOf (hexL 4 P ++ [58] ++ bytesL ((L.drop k).take 1) ++ List.replicate t 32))) (fun ln => 15 - szOf ln)
            case atStart => exact ⟨0, S, by omega, by omega, rfl, Lib.hid (by rw [HS2.out, show j = 1 by omega, List.take_of_length_le (by simp; omega)]; simp)⟩
            case round =>
              obtain ⟨t, S2, ht, ht15, rfl, HS3⟩ := hrel
              by_cases hlt : S2.size < 15
              · go_wp2
                go_round
                case rel => exact ⟨t + 1, _, by rw [ByteArray.size_append, ht]; rfl, by rw [ByteArray.size_append]; show S2.size + 1 ≤ 15; omega, rfl, Lib.hid (by rw [HS3.out, show (⟨#[32]⟩ : ByteArray) = strOf [32] from rfl, strOf_append, List.replicate_succ']; simp)⟩
                case measure => simp only [szOf, ByteArray.size_append]; show 15 - (S2.size + 1) < 15 - S2.size; omega
              · have hfull : strOf (lineL P ((L.drop k).take 1)) = S2 := by
                  rw [HS3.out, lineL, padL]
                  congr 1
                  have e1 : (hexL 4 P ++ [58] ++ bytesL ((L.drop k).take 1)).length = 5 + 3 * 1 := by simp [hexL_length, bytesL_len]; omega
                  rw [e1, show 15 - (5 + 3 * 1) = t by omega]
                have HF := Lib.hid (show lineAt L org k = S2 ++ (⟨#[46, 98, 121, 116, 101, 32, 36]⟩ ++ tx) by rw [lineAt, HP.out, HS.out, hfull, HW.out])
                have hsz15 : S2.size = 15 := by omega
                clear hfull
                go_wp2_with (at_builtin; refine wpList_append_own _ rfl _ _ 34 rfl w.heap.size 9 i0 (.string ⟨#[]⟩) 1 16 Try.underlying34 hi hz0 hz1 hz2 rfl (by decide) _ _ _ rfl (World.ownsRow.alloc hown2 _) ⟨w2.heap.size, 0, none⟩ 1 1 [.string (S2 ++ (⟨#[46, 98, 121, 116, 101, 32, 36]⟩ ++ tx))] rfl rfl (cell_one_new _ _ _) ?c2 ?c3 ?c4 ?c5 ?_)
                case c2 => first | rfl | (intro u hu; simp at hu; subst hu; rfl)
                case c3 => unfold maxLen; first | omega | (simp; omega)
                case c4 => first | omega | (simp; omega)
                case c5 => first | omega | (simp; omega)
                intro v' w3 hown' hgrow _
                have hnx1 : Below w.heap.size w w3 := (hb2.alloc hsz2 _).grown hgrow (by simp; omega) (fun j ej => ((World.ownsRow.lt hown2) j ej).1)
                have HO := Lib.hid hown'
                clear hown' hgrow
                go_wp2
                go_roundw
                case rel =>
                  refine ⟨k + 1, pre ++ [lineAt L org k], by omega, by simp; omega, by go_num, ?_, hnx1, Lib.hid ?_⟩
                  · have := HO.out
                    rw [HF.out]
                    simpa [OwnStrs] using this
                  · rw [← H.out, listFrom_step HR.out.1 hp, HS.out]; simp
                case measure => simp [intOf]; omega
      | false =>
        obtain ⟨z, hz⟩ : ∃ z, opSize x0 = z := ⟨_, rfl⟩
        have hzs : z = (s : Int) := by
          have h1 := textAt_full HR.out.1 hp (by rw [HT.out]; exact hE)
          rw [HX0.out, hz] at h1
          have : s = z.toNat := by rw [← HS.out, stepAt, HT.out, if_neg (by simp [hE]), HX0.out, hz]
          omega
        rw [hz, hzs] at HSZ
        clear hz hzs
        have HW := Lib.hid (show wordAt L org k = T by rw [wordAt, HT.out, if_neg (by simp [hE])])
        go_wp2_with fail
        rw [EP.out]
        refine (HSH _ H3).mono ?_
        rintro e w1 ⟨rfl, b1⟩
        have hg1 : g < wr.heap.size := Nat.lt_of_lt_of_le hg hsz
        have c1 := cellKept b1 hck hg1
        have hb1 : Below w.heap.size w w1 := hnx.trans (b1.mono hsz)
        go_wp2_with fail
        refine (HSZ _).mono ?_
        rintro e w2 ⟨rfl, b2⟩
        have c2 := cellKept b2 c1 (Nat.lt_of_lt_of_le hg1 b1.size)
        have hb2 : Below w.heap.size w w2 := hb1.trans (b2.mono hb1.size)
        have hsz2 := hb2.size
        have hown2 : OwnStrs w2 w.heap.size u5 pre := own_kept (own_kept hown b1) b2
        have HR2 := Lib.hid (HR.out.below hb2)
        clear b1 b2 hb1 hnx hown H3 HSH HSZ c1 hck
        go_wp2_with fail
        refine (CTP _).mono ?_
        rintro e w' ⟨rfl, rfl⟩
        go_wp2
        go_loop [10, 11] (fun ln kk => ∃ (j : Nat) (S : ByteArray), j ≤ s ∧ S.size = 5 + 3 * j ∧ kk = .int .i64 j ∧ ln = .string S ∧ Hid (S = strOf (hexL 4 P ++ [58] ++ bytesL (((L.drop k).take s).take j)))) (fun _ kk => s - (intOf kk).toNat)
        case atStart => exact ⟨0, _, Nat.zero_le _, by rw [ByteArray.size_append, htp]; rfl, rfl, rfl, Lib.hid (by rw [HTP.out, show (⟨#[58]⟩ : ByteArray) = strOf [58] from rfl, strOf_append]; simp [bytesL])⟩
        case round =>
          obtain ⟨j, S, hj, hS, rfl, rfl, HS2⟩ := hrel
          by_cases hjs : j < s
          · have hkj : k + j < L.length := by omega
            obtain ⟨ty, hty, HTY, CTY⟩ := hexText_named (L.getD (k + j) 0) 2 (by have := HR2.out.byte (k + j); omega) (by omega) (by omega)
            have cj := HR2.out.cell hkj
            obtain ⟨y, hy⟩ : ∃ y, L.getD (k + j) 0 = y := ⟨_, rfl⟩
            rw [hy] at cj CTY
            have hy2 : y < 256 := by rw [← hy]; exact HR2.out.byte _
            have HY := Lib.hid hy
            clear hy
            have ikj : (0 : Int) ≤ (k : Int) + (j : Int) ∧ (k : Int) + (j : Int) < (L.length : Int) := by omega
            go_wp2_with fail
            refine (CTY _).mono ?_
            rintro e w' ⟨rfl, rfl⟩
            go_wp2
            go_round
            case rel =>
              refine ⟨j + 1, _, by omega, by rw [ByteArray.size_append, ByteArray.size_append, hty, hS]; show 5 + 3 * j + 1 + 2 = _; omega, by go_num, rfl, Lib.hid ?_⟩
              have hlen : ((L.drop k).take s).length = s := by simp; omega
              have hgd : ((L.drop k).take s).getD j 0 = L.getD (k + j) 0 := by simp [List.getD, List.getElem?_take, hjs, List.getElem?_drop]
              rw [bytesL_step _ j (by rw [hlen]; exact hjs), hgd, HS2.out, HTY.out, show (⟨#[32]⟩ : ByteArray) = strOf [32] from rfl, strOf_append, strOf_append]
              simp
            case measure => simp [intOf]; omega
          · go_wp2
            go_loop [10] (fun ln => ∃ (t : Nat) (S : ByteArray), S.size = 5 + 3 * s + t ∧ S.size ≤ 15 ∧ ln = .string S ∧ Hid (S = strOf (hexL 4 P ++ [58] ++ bytesL ((L.drop k).take s) ++ List.replicate t 32))) (fun ln => 15 - szOf ln)
            case atStart => exact ⟨0, S, by omega, by omega, rfl, Lib.hid (by rw [HS2.out, show j = s by omega, List.take_of_length_le (by simp; omega)]; simp)⟩
            case round =>
              obtain ⟨t, S2, ht, ht15, rfl, HS3⟩ := hrel
              by_cases hlt : S2.size < 15
              · go_wp2
                go_round
                case rel => exact ⟨t + 1, _, by rw [ByteArray.size_append, ht]; rfl, by rw [ByteArray.size_append]; show S2.size + 1 ≤ 15; omega, rfl, Lib.hid (by rw [HS3.out, show (⟨#[32]⟩ : ByteArray) = strOf [32] from rfl, strOf_append, List.replicate_succ']; simp)⟩
                case measure => simp only [szOf, ByteArray.size_append]; show 15 - (S2.size + 1) < 15 - S2.size; omega
              · have hfull : strOf (lineL P ((L.drop k).take s)) = S2 := by
                  rw [HS3.out, lineL, padL]
                  congr 1
                  have e1 : (hexL 4 P ++ [58] ++ bytesL ((L.drop k).take s)).length = 5 + 3 * s := by simp [hexL_length, bytesL_len]; omega
                  rw [e1, show 15 - (5 + 3 * s) = t by omega]
                have HF := Lib.hid (show lineAt L org k = S2 ++ T by rw [lineAt, HP.out, HS.out, hfull, HW.out])
                have hsz15 : S2.size = 15 := by omega
                clear hfull
                go_wp2_with (at_builtin; refine wpList_append_own _ rfl _ _ 34 rfl w.heap.size 9 i0 (.string ⟨#[]⟩) 1 16 Try.underlying34 hi hz0 hz1 hz2 rfl (by decide) _ _ _ rfl (World.ownsRow.alloc hown2 _) ⟨w2.heap.size, 0, none⟩ 1 1 [.string (S2 ++ T)] rfl rfl (cell_one_new _ _ _) ?c2 ?c3 ?c4 ?c5 ?_)
                case c2 => first | rfl | (intro u hu; simp at hu; subst hu; rfl)
                case c3 => unfold maxLen; first | omega | (simp; omega)
                case c4 => first | omega | (simp; omega)
                case c5 => first | omega | (simp; omega)
                intro v' w3 hown' hgrow _
                have hnx1 : Below w.heap.size w w3 := (hb2.alloc hsz2 _).grown hgrow (by simp; omega) (fun j ej => ((World.ownsRow.lt hown2) j ej).1)
                have HO := Lib.hid hown'
                clear hown' hgrow
                go_wp2
                go_roundw
                case rel =>
                  refine ⟨k + s, pre ++ [lineAt L org k], by omega, by simp; omega, by go_num, ?_, hnx1, Lib.hid ?_⟩
                  · have := HO.out
                    rw [HF.out]
                    simpa [OwnStrs] using this
                  · rw [← H.out, listFrom_step HR.out.1 hp, HS.out]; simp
                case measure => simp [intOf]; omega
    · obtain rfl : k = L.length := by omega
      have HD := Lib.hid (show pre = listFrom L org L.length 0 by rw [← H.out]; simp [listFrom])
      go_wp2
      go_ret
      exact ⟨_, rfl, by rw [← HD.out]; exact hown, hnx⟩

theorem specList_any (a : Option Addr) (c org : Nat) (L : List Nat) (hc : L.length ≤ c) (hl : L.length ≤ 1048576) (ho : org < 65536) (w : World) (h : RowB w a L) :
    Calls Try.prog 18 #[.slice a L.length c, .int .u16 org] w fun e w' => ∃ v, e = .returned v ∧ OwnStrs w' w.heap.size v (listing L org) ∧ Below w.heap.size w w' := by
  unfold listing
  by_cases hL : 1024 < L.length
  · rw [if_pos hL]
    have hL' : (1024 : Int) < (L.length : Int) := by omega
    clear h hc
    go_enter Try.func18, Try.ntmps18
    go_wp2
    go_ret
    exact ⟨_, rfl, World.ownsRow_made w #[] 0 (Nat.le_refl _) (by decide) rfl, (Below.refl _ _).alloc (Nat.le_refl _) _⟩
  · rw [if_neg hL]
    exact specList_in a c org L (by omega) hc ho w h

end Go.Proofs.Ytffhjoldiicgdab
