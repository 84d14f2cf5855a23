/-
  Contracts over the program: spec.Lines and spec.Words give rows of their own that hold the text's lines and words.
-/
import Derived.Test.YtffhjoldiicgdabRows
import Derived.Test.YtffhjoldiicgdabCut
import Derived.WalkKit
import Derived.WalkSpells
import Derived.WalkLawsBesides
import Derived.OwnWalk
import Derived.Maps.AppendAt
import Derived.Lib.Hide
import Derived.RangeFuncBox
namespace Go.Proofs.Ytffhjoldiicgdab
set_option linter.unusedVariables false
set_option linter.unusedSimpArgs false
open Go.RowKit

/-- v is a slice over a row of its own, from base on, that holds these texts. -/
def OwnStrs (w : World) (base : Nat) (v : Value) (L : List ByteArray) : Prop := w.ownsRow base 9 1 v L.length (L.map Value.string)

theorem infoStr : (Try.prog.info? 9).map (fun i => (i.zero, i.size, i.bytes)) = some (some (.string ⟨#[]⟩), 1, 16) := by kernel_rfl

def isNl (c : UInt8) : Bool := c == 10
def isBl (c : UInt8) : Bool := c == 32 || c == 9

theorem isNl_iff (c : UInt8) : isNl c = ((c.toNat : Int) == 10) := by
  unfold isNl
  rw [Bool.eq_iff_iff]; simp
  constructor
  · intro h; rw [h]; rfl
  · intro h; apply UInt8.toNat_inj.1; show c.toNat = 10; omega

/-- The lines of a text. -/
def linesOf (l : List UInt8) : List ByteArray := ((cut isNl l).map strOf).take (if (cut isNl l).getLast? = some [] then (cut isNl l).length - 1 else (cut isNl l).length)

/-- What has come of the lines when the text behind 'from' is left. -/
theorem lines_done (l : List UInt8) (pre : List (List UInt8)) (f : Nat) (h : pre ++ cut isNl (l.drop f) = cut isNl l) (hn : NoGap isNl l f l.length) :
    linesOf l = if f < l.length then pre.map strOf ++ [strOf (l.drop f)] else pre.map strOf := by
  rw [cut_end isNl l f hn] at h
  unfold linesOf
  rw [← h]
  by_cases hf : f < l.length
  · have hne : l.drop f ≠ [] := by intro e; have := congrArg List.length e; simp at this; omega
    rw [if_pos hf, if_neg (by simpa using hne), List.take_of_length_le (by simp)]
    simp
  · have he : l.drop f = [] := List.drop_eq_nil_of_le (by omega)
    rw [if_neg hf, he, if_pos (by simp)]
    simp

theorem own_len {w : World} {base : Nat} {v : Value} {L : List ByteArray} (h : OwnStrs w base v L) : ∃ a cap, v = .slice a L.length cap := by
  rcases h.2 with ⟨rfl, h0⟩ | ⟨g, cap, _, rfl, _⟩
  · exact ⟨none, 0, by rw [h0]⟩
  · exact ⟨_, _, rfl⟩

set_option maxRecDepth 100000 in
theorem specLines_any (s : ByteArray) (w : World) (hs : s.size ≤ 1048576) :
    Calls Try.prog 43 #[.string s] w fun e w' => ∃ v, e = .returned v ∧ OwnStrs w' w.heap.size v (linesOf s.data.toList) ∧ Below w.heap.size w w' := by
  obtain ⟨i0, hi, hz0, hz1, hz2⟩ := info_parts infoStr
  have hlen : s.data.toList.length = s.size := Array.length_toList
  have HL := Lib.hid hlen
  clear hlen
  go_enter Try.func43, Try.ntmps43
  go_wp2
  go_loopw [3, 4, 5] (fun out fr i wr => ∃ (k f : Nat) (pre : List (List UInt8)), k ≤ s.size ∧ f ≤ k ∧ pre.length ≤ f ∧ i = .int .i64 k ∧ fr = .int .i64 f ∧ OwnStrs wr w.heap.size out (pre.map strOf) ∧ Below w.heap.size w wr ∧ Hid (pre ++ cut isNl (s.data.toList.drop f) = cut isNl s.data.toList ∧ NoGap isNl s.data.toList f k)) (fun _ _ i _ => s.size - (intOf i).toNat)
  case atStart => exact ⟨0, 0, [], Nat.zero_le _, Nat.le_refl _, Nat.le_refl _, rfl, rfl, World.ownsRow_made w #[] 0 (Nat.le_refl _) (by decide) rfl, (Below.refl _ _).alloc (Nat.le_refl _) _, Lib.hid ⟨by simp, NoGap.nil _ _ _⟩⟩
  case round =>
    obtain ⟨k, f, pre, hk, hf, hpl, rfl, rfl, hown, hnx, H⟩ := hrel
    have hsz := hnx.size
    by_cases hp : k < s.size
    · by_cases hnl : ((s[k].toNat : Int) == 10) = true
      · have HG := Lib.hid (show isNl (s.data.toList.getD k 0) = true by rw [getD_at s k hp, isNl_iff]; exact hnl)
        go_wp2_with (at_builtin; refine wpList_append_own _ rfl _ _ 34 rfl w.heap.size 9 i0 (.string ⟨#[]⟩) 1 16 Try.underlying34 hi hz0 hz1 hz2 rfl (by decide) _ _ _ rfl (World.ownsRow.alloc hown _) ⟨wr.heap.size, 0, none⟩ 1 1 [.string (s.extract f k)] rfl rfl (cell_one_new _ _ _) ?c2 ?c3 ?c4 ?c5 ?_)
        case c2 => first | rfl | (intro u hu; simp at hu; subst hu; rfl)
        case c3 => unfold maxLen; first | omega | (simp; omega)
        case c4 => first | omega | (simp; omega)
        case c5 => first | omega | (simp; omega)
        intro v' w1 hown' hgrow _
        have hnx1 : Below w.heap.size w w1 := (hnx.alloc hsz _).grown hgrow (by simp; omega) (fun j ej => ((World.ownsRow.lt hown) j ej).1)
        have HO := Lib.hid hown'
        clear hown' hgrow hown hnx hsz
        go_wp2
        go_roundw
        case rel =>
          obtain ⟨h1, h2⟩ := H.out
          refine ⟨k + 1, k + 1, pre ++ [(s.data.toList.drop f).take (k - f)], by omega, by omega, by simp; omega, by go_num, by go_num, ?_, hnx1, Lib.hid ⟨?_, NoGap.nil _ _ _⟩⟩
          · have := HO.out
            rw [extract_part] at this
            simpa [OwnStrs] using this
          · rw [← h1, cut_at isNl _ f k hf (by rw [HL.out]; exact hp) h2 HG.out]; simp
        case measure => simp [intOf]; omega
      · have hnl' : ((s[k].toNat : Int) == 10) = false := by simpa using hnl
        have HG := Lib.hid (show isNl (s.data.toList.getD k 0) = false by rw [getD_at s k hp, isNl_iff]; exact hnl')
        clear hnl
        go_wp2
        go_roundw
        case rel => exact ⟨k + 1, f, pre, by omega, by omega, by omega, by go_num, rfl, hown, hnx, Lib.hid ⟨H.out.1, H.out.2.step (k + 1) (fun j h1 h2 => by rw [show j = k by omega]; exact HG.out)⟩⟩
        case measure => simp [intOf]; omega
    · obtain rfl : k = s.size := by omega
      have HD := Lib.hid (lines_done s.data.toList pre f H.out.1 (by rw [HL.out]; exact H.out.2))
      by_cases hfl : f < s.size
      · go_wp2_with (at_builtin; refine wpList_append_own _ rfl _ _ 34 rfl w.heap.size 9 i0 (.string ⟨#[]⟩) 1 16 Try.underlying34 hi hz0 hz1 hz2 rfl (by decide) _ _ _ rfl (World.ownsRow.alloc hown _) ⟨wr.heap.size, 0, none⟩ 1 1 [.string (s.extract f s.size)] rfl rfl (cell_one_new _ _ _) ?d2 ?d3 ?d4 ?d5 ?_)
        case d2 => first | rfl | (intro u hu; simp at hu; subst hu; rfl)
        case d3 => unfold maxLen; first | omega | (simp; omega)
        case d4 => first | omega | (simp; omega)
        case d5 => first | omega | (simp; omega)
        intro v' w1 hown' hgrow _
        have hnx1 : Below w.heap.size w w1 := (hnx.alloc hsz _).grown hgrow (by simp; omega) (fun j ej => ((World.ownsRow.lt hown) j ej).1)
        have HO := Lib.hid hown'
        clear hown' hgrow hown hnx hsz
        go_wp2
        go_ret
        refine ⟨_, rfl, ?_, hnx1⟩
        have := HO.out
        rw [extract_rest] at this
        rw [HD.out, if_pos (by rw [HL.out]; exact hfl)]
        simpa [OwnStrs] using this
      · go_wp2
        go_ret
        refine ⟨_, rfl, ?_, hnx⟩
        rw [HD.out, if_neg (by rw [HL.out]; exact hfl)]
        exact hown

/-- The words of a text. -/
def wordsOf (l : List UInt8) : List ByteArray := ((cut isBl l).filter fun x => !x.isEmpty).map strOf

theorem isBl_iff (c : UInt8) : isBl c = (((c.toNat : Int) == 32) || ((c.toNat : Int) == 9)) := by
  have h32 : (c == 32) = ((c.toNat : Int) == 32) := by
    rw [Bool.eq_iff_iff]; simp
    constructor
    · intro h; rw [h]; rfl
    · intro h; apply UInt8.toNat_inj.1; show c.toNat = 32; omega
  have h9 : (c == 9) = ((c.toNat : Int) == 9) := by
    rw [Bool.eq_iff_iff]; simp
    constructor
    · intro h; rw [h]; rfl
    · intro h; apply UInt8.toNat_inj.1; show c.toNat = 9; omega
  unfold isBl
  rw [h32, h9]

/-- The words that are still to come behind a place. -/
def wordsFrom (l : List UInt8) (k : Nat) : List (List UInt8) := (cut isBl (l.drop k)).filter fun x => !x.isEmpty

theorem words_blank (l : List UInt8) (k : Nat) (hk : k < l.length) (hb : isBl (l.getD k 0) = true) : wordsFrom l k = wordsFrom l (k + 1) := by
  unfold wordsFrom
  rw [cut_at isBl l k k (Nat.le_refl _) hk (NoGap.nil _ _ _) hb]
  simp

theorem words_end (l : List UInt8) (k : Nat) (hk : l.length ≤ k) : wordsFrom l k = [] := by
  unfold wordsFrom
  rw [List.drop_eq_nil_of_le hk]
  rfl

theorem words_word (l : List UInt8) (b k : Nat) (hb : b < k) (hk : k ≤ l.length) (hn : NoGap isBl l b k) (he : k = l.length ∨ isBl (l.getD k 0) = true) : wordsFrom l b = (l.drop b).take (k - b) :: wordsFrom l k := by
  have hne : ((l.drop b).take (k - b)).isEmpty = false := by
    cases hc : (l.drop b).take (k - b) with
    | nil => have := congrArg List.length hc; simp at this; omega
    | cons _ _ => rfl
  by_cases hkl : k < l.length
  · have hg := he.resolve_left (by omega)
    rw [words_blank l k hkl hg]
    unfold wordsFrom
    rw [cut_at isBl l b k (by omega) hkl hn hg]
    simp [hne]
  · have hkl' : k = l.length := by omega
    rw [words_end l k (by omega)]
    subst hkl'
    unfold wordsFrom
    rw [cut_end isBl l b hn]
    rw [List.take_of_length_le (by simp)] at hne ⊢
    simp [hne]

theorem lblank_any (x : Int) (w : World) :
    Calls Try.prog 87 #[.int .u8 x] w fun e w' => e = .returned (.bool ((x == 32) || (x == 9))) ∧ w = w' := by
  by_cases h1 : (x == 32) = true
  · go_enter Try.func87, Try.ntmps87
    go_wp2
    go_ret; exact ⟨by simp [h1], rfl⟩
  · have h1' : (x == 32) = false := by simpa using h1
    clear h1
    go_enter Try.func87, Try.ntmps87
    go_wp2
    go_ret; exact ⟨by simp [h1'], rfl⟩

set_option maxRecDepth 100000 in
theorem specWords_any (s : ByteArray) (w : World) (hs : s.size ≤ 1048576) :
    Calls Try.prog 61 #[.string s] w fun e w' => ∃ v, e = .returned v ∧ OwnStrs w' w.heap.size v (wordsOf s.data.toList) ∧ Below w.heap.size w w' := by
  obtain ⟨i0, hi, hz0, hz1, hz2⟩ := info_parts infoStr
  have HL := Lib.hid (show s.data.toList.length = s.size from Array.length_toList)
  go_enter Try.func61, Try.ntmps61
  go_wp2
  go_loopw [3, 4] (fun out i wr => ∃ (k : Nat) (pre : List (List UInt8)), k ≤ s.size ∧ pre.length ≤ k ∧ i = .int .i64 k ∧ OwnStrs wr w.heap.size out (pre.map strOf) ∧ Below w.heap.size w wr ∧ Hid (pre ++ wordsFrom s.data.toList k = wordsFrom s.data.toList 0)) (fun _ i _ => s.size - (intOf i).toNat)
  case atStart => exact ⟨0, [], Nat.zero_le _, Nat.le_refl _, rfl, World.ownsRow_made w #[] 0 (Nat.le_refl _) (by decide) rfl, (Below.refl _ _).alloc (Nat.le_refl _) _, Lib.hid (by simp)⟩
  case round =>
    obtain ⟨k, pre, hk, hpl, rfl, hown, hnx, H⟩ := hrel
    have hsz := hnx.size
    by_cases hp : k < s.size
    · by_cases hbl : isBl (s.data.toList.getD k 0) = true
      · have HG := Lib.hid hbl
        have HB := Lib.hid (show (((s[k].toNat : Int) == 32) || ((s[k].toNat : Int) == 9)) = true by rw [← isBl_iff, ← getD_at s k hp]; exact hbl)
        clear hbl
        go_wp2_with fail
        refine (lblank_any _ _).mono ?_
        rintro e w' ⟨rfl, rfl⟩
        rw [HB.out]
        go_wp2
        go_roundw
        case rel => exact ⟨k + 1, pre, by omega, by omega, by go_num, hown, hnx, Lib.hid (by rw [← H.out, words_blank _ k (by rw [HL.out]; exact hp) HG.out])⟩
        case measure => simp [intOf]; omega
      · have hbl' : isBl (s.data.toList.getD k 0) = false := by simpa using hbl
        have HG := Lib.hid hbl'
        have HB := Lib.hid (show (((s[k].toNat : Int) == 32) || ((s[k].toNat : Int) == 9)) = false by rw [← isBl_iff, ← getD_at s k hp]; exact hbl')
        clear hbl hbl'
        go_wp2_with fail
        refine (lblank_any _ _).mono ?_
        rintro e w' ⟨rfl, rfl⟩
        rw [HB.out]
        go_wp2
        have fin : ∀ m : Nat, m ≤ s.size → k ≤ m → NoGap isBl s.data.toList k m → (m = s.size ∨ isBl (s.data.toList.getD m 0) = true) → k < m ∧ wordsFrom s.data.toList k = (s.data.toList.drop k).take (m - k) :: wordsFrom s.data.toList m := fun m h1 h2 h3 h4 => by
          have hkm : k < m := by
            rcases h4 with rfl | h4
            · exact hp
            · rcases Nat.lt_or_ge k m with h | h
              · exact h
              · rw [show m = k by omega, HG.out] at h4; cases h4
          exact ⟨hkm, words_word _ k m hkm (by rw [HL.out]; exact h1) h3 (by rw [HL.out]; exact h4)⟩
        have FIN := Lib.hid fin
        clear fin
        go_loop [5] (fun en => ∃ m : Nat, k ≤ m ∧ m ≤ s.size ∧ en = .int .i64 m ∧ Hid (NoGap isBl s.data.toList k m)) (fun en => s.size - (intOf en).toNat)
        case atStart => exact ⟨k, Nat.le_refl _, by omega, rfl, Lib.hid (NoGap.nil _ _ _)⟩
        case round =>
          obtain ⟨m, hm1, hm2, rfl, HN⟩ := hrel
          by_cases hm : m < s.size
          · by_cases hb2 : isBl (s.data.toList.getD m 0) = true
            · have HF := Lib.hid (FIN.out m hm2 hm1 HN.out (.inr hb2))
              have hkm := HF.out.1
              have HB2 := Lib.hid (show (((s[m].toNat : Int) == 32) || ((s[m].toNat : Int) == 9)) = true by rw [← isBl_iff, ← getD_at s m hm]; exact hb2)
              clear hb2
              go_wp2_with fail
              refine (lblank_any _ _).mono ?_
              rintro e w' ⟨rfl, rfl⟩
              rw [HB2.out]
              go_wp2_with (at_builtin; refine wpList_append_own _ rfl _ _ 34 rfl w.heap.size 9 i0 (.string ⟨#[]⟩) 1 16 Try.underlying34 hi hz0 hz1 hz2 rfl (by decide) _ _ _ rfl (World.ownsRow.alloc hown _) ⟨wr.heap.size, 0, none⟩ 1 1 [.string (s.extract k m)] rfl rfl (cell_one_new _ _ _) ?c2 ?c3 ?c4 ?c5 ?_)
              case c2 => first | rfl | (intro u hu; simp at hu; subst hu; rfl)
              case c3 => unfold maxLen; first | omega | (simp; omega)
              case c4 => first | omega | (simp; omega)
              case c5 => first | omega | (simp; omega)
              intro v' w1 hown' hgrow _
              have hnx1 : Below w.heap.size w w1 := (hnx.alloc hsz _).grown hgrow (by simp; omega) (fun j ej => ((World.ownsRow.lt hown) j ej).1)
              have HO := Lib.hid hown'
              clear hown' hgrow hown hnx hsz
              go_wp2
              go_roundw
              case rel =>
                refine ⟨m, pre ++ [(s.data.toList.drop k).take (m - k)], hm2, by simp; omega, rfl, ?_, hnx1, Lib.hid ?_⟩
                · have := HO.out
                  rw [extract_part] at this
                  simpa [OwnStrs] using this
                · rw [← H.out, HF.out.2]; simp
              case measure => simp [intOf]; omega
            · have hb2' : isBl (s.data.toList.getD m 0) = false := by simpa using hb2
              have HG2 := Lib.hid hb2'
              have HB2 := Lib.hid (show (((s[m].toNat : Int) == 32) || ((s[m].toNat : Int) == 9)) = false by rw [← isBl_iff, ← getD_at s m hm]; exact hb2')
              clear hb2 hb2'
              go_wp2_with fail
              refine (lblank_any _ _).mono ?_
              rintro e w' ⟨rfl, rfl⟩
              rw [HB2.out]
              go_wp2
              go_round
              case rel => exact ⟨m + 1, by omega, by omega, by go_num, Lib.hid (HN.out.step (m + 1) (fun j h1 h2 => by rw [show j = m by omega]; exact HG2.out))⟩
              case measure => simp [intOf]; omega
          · have HF := Lib.hid (FIN.out m hm2 hm1 HN.out (.inl (by omega)))
            have hkm := HF.out.1
            go_wp2_with (at_builtin; refine wpList_append_own _ rfl _ _ 34 rfl w.heap.size 9 i0 (.string ⟨#[]⟩) 1 16 Try.underlying34 hi hz0 hz1 hz2 rfl (by decide) _ _ _ rfl (World.ownsRow.alloc hown _) ⟨wr.heap.size, 0, none⟩ 1 1 [.string (s.extract k m)] rfl rfl (cell_one_new _ _ _) ?e2 ?e3 ?e4 ?e5 ?_)
            case e2 => first | rfl | (intro u hu; simp at hu; subst hu; rfl)
            case e3 => unfold maxLen; first | omega | (simp; omega)
            case e4 => first | omega | (simp; omega)
            case e5 => first | omega | (simp; omega)
            intro v' w1 hown' hgrow _
            have hnx1 : Below w.heap.size w w1 := (hnx.alloc hsz _).grown hgrow (by simp; omega) (fun j ej => ((World.ownsRow.lt hown) j ej).1)
            have HO := Lib.hid hown'
            clear hown' hgrow hown hnx hsz
            go_wp2
            go_roundw
            case rel =>
              refine ⟨m, pre ++ [(s.data.toList.drop k).take (m - k)], hm2, by simp; omega, rfl, ?_, hnx1, Lib.hid ?_⟩
              · have := HO.out
                rw [extract_part] at this
                simpa [OwnStrs] using this
              · rw [← H.out, HF.out.2]; simp
            case measure => simp [intOf]; omega
    · have HE := Lib.hid (words_end s.data.toList k (by rw [HL.out]; omega))
      go_wp2
      go_ret
      refine ⟨_, rfl, ?_, hnx⟩
      have e := H.out
      rw [HE.out, List.append_nil] at e
      show OwnStrs _ _ _ ((wordsFrom s.data.toList 0).map strOf)
      rw [← e]
      exact hown

end Go.Proofs.Ytffhjoldiicgdab
