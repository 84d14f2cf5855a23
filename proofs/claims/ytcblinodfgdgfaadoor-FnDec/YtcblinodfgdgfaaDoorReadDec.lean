/-
  Contracts over the program: spec.ReadDec and impl.ReadDec: both read the same number.
-/
import Derived.Test.YtcblinodfgdgfaaDoorDecText
import Derived.Test.YtcblinodfgdgfaaDoorHex
namespace Go.Proofs.YtcblinodfgdgfaaDoor
open Go.RowKit
open Go.Lib (decDigits itoa nDigits)

/-- The number whose decimal numeral l is, -1 where there is none of at most nine digits. -/
def rdec (l : List UInt8) : Int := if l = [] ∨ 9 < l.length ∨ (l.head? = some 48 ∧ 1 < l.length) then -1 else rd 10 l 0

theorem rdec_no (l : List UInt8) (h : l = [] ∨ 9 < l.length ∨ (l.head? = some 48 ∧ 1 < l.length)) : rdec l = -1 := if_pos h
theorem rdec_yes (l : List UInt8) (h1 : l ≠ []) (h2 : l.length ≤ 9) (h3 : ¬ (l.head? = some 48 ∧ 1 < l.length)) : rdec l = rd 10 l 0 := if_neg (by
  rintro (h | h | h)
  · exact h1 h
  · omega
  · exact h3 h)

theorem head_at (s : ByteArray) (h : 0 < s.size) : s.data.toList.head? = some s[0] := by
  have := drop_cons s 0 h
  rw [List.drop_zero] at this
  rw [this]; rfl
theorem len_data (s : ByteArray) : s.data.toList.length = s.size := Array.length_toList
theorem nil_size (s : ByteArray) (h : s.size = 0) : s.data.toList = [] := List.eq_nil_of_length_eq_zero (by rw [len_data, h])

theorem toList_data (s : ByteArray) : s.toList = s.data.toList := ByteArray.toList_eq s
theorem list_ne (s : ByteArray) (h : 0 < s.size) : ¬ s.toList = [] := by
  rw [toList_data]; intro e; have := len_data s; rw [e] at this; simp at this; omega
theorem list_empty (s : ByteArray) (h : 0 < s.size) : s.toList.isEmpty = false := by
  have := list_ne s h
  cases hl : s.toList with
  | nil => exact absurd hl this
  | cons _ _ => rfl

theorem implReadDec_any (s : ByteArray) (w : World) (hs : s.size ≤ maxLen) :
    Calls Tryd.prog 13 #[.string s] w fun e w' => e = .returned (.int .i64 (rdec s.data.toList)) ∧ (w = w' ∨ ∃ p, w' = w.iter s p) := by
  unfold maxLen at hs
  by_cases h0 : s.size = 0
  · have HR := Lib.hid (rdec_no s.data.toList (.inl (nil_size s h0)))
    obtain rfl : s = ByteArray.empty := ByteArray.ext (Array.ext' (nil_size s h0))
    clear h0 hs
    go_enter Tryd.func13, Tryd.ntmps13
    go_wp2
    go_ret; exact ⟨ret_int HR.out.symm, .inl rfl⟩
  · have hne := list_ne s (by omega)
    have hie := list_empty s (by omega)
    have hpos : 0 < s.size := by omega
    by_cases h9 : 9 < s.size
    · have HR := Lib.hid (rdec_no s.data.toList (.inr (.inl (by rw [len_data]; exact h9))))
      clear h0
      go_enter Tryd.func13, Tryd.ntmps13
      go_wp2
      go_ret; exact ⟨ret_int HR.out.symm, .inl rfl⟩
    · by_cases hz : s[0] = 48 ∧ 1 < s.size
      · have HR := Lib.hid (rdec_no s.data.toList (.inr (.inr ⟨by rw [head_at s (by omega), hz.1], by rw [len_data]; exact hz.2⟩)))
        have hb : ((s[0].toNat : Int) == 48) = true := by rw [hz.1]; rfl
        have h1 := hz.2
        clear hz h0
        go_enter Tryd.func13, Tryd.ntmps13
        go_wp2
        go_ret; exact ⟨ret_int HR.out.symm, .inl rfl⟩
      · have HR := Lib.hid (rdec_yes s.data.toList (fun h => h0 (by have := len_data s; rw [h] at this; simpa using this.symm)) (by rw [len_data]; omega) (by rw [head_at s (by omega), len_data]; intro h; exact hz ⟨Option.some.inj h.1, h.2⟩))
        by_cases hb : ((s[0].toNat : Int) == 48) = true
        · have h1 : s.size ≤ 1 := by
            refine Nat.le_of_not_lt fun h => hz ⟨?_, h⟩
            rw [beq_iff_eq] at hb
            apply UInt8.toNat_inj.1
            show s[0].toNat = 48
            omega
          clear hz h0
          go_enter Tryd.func13, Tryd.ntmps13
          go_wp2_with fail
          refine (readDigits_any _ _ _ (by omega) (by omega) (by omega)).mono ?_
          rintro e w' ⟨rfl, p, rfl⟩
          go_wp2
          go_ret; exact ⟨ret_int HR.out.symm, .inr ⟨_, rfl⟩⟩
        · have hb' : ((s[0].toNat : Int) == 48) = false := by simpa using hb
          clear hz h0 hb
          go_enter Tryd.func13, Tryd.ntmps13
          go_wp2_with fail
          refine (readDigits_any _ _ _ (by omega) (by omega) (by omega)).mono ?_
          rintro e w' ⟨rfl, p, rfl⟩
          go_wp2
          go_ret; exact ⟨ret_int HR.out.symm, .inr ⟨_, rfl⟩⟩

theorem rdec_stop (l : List UInt8) (h : rd 10 l 0 = -1) : rdec l = -1 := by
  unfold rdec; split
  · rfl
  · exact h

theorem rdec_bad (s : ByteArray) (a : Int) (h : a = rd 10 s.data.toList 0) (h0 : 0 ≤ a) (hp : 0 < s.size) (h9 : s.size ≤ 9) (hq : (!itoa a == s.toList) = true) : rdec s.data.toList = -1 := by
  rw [toList_data] at hq
  refine rdec_no _ (.inr (.inr (Classical.byContradiction fun hn => ?_)))
  cases hl : s.data.toList with
  | nil => have := len_data s; rw [hl] at this; simp at this; omega
  | cons c r =>
    rw [hl] at hq h hn
    have := (rd_dec_yes c r (fun hc => hn ⟨by rw [hc.1]; rfl, by have := List.length_pos_iff.2 hc.2; simp; omega⟩) (by omega)).2
    rw [← h] at this
    rw [this] at hq
    simp at hq

theorem rdec_good (s : ByteArray) (a : Int) (h : a = rd 10 s.data.toList 0) (h0 : 0 ≤ a) (hp : 0 < s.size) (h9 : s.size ≤ 9) (hq : (!itoa a == s.toList) = false) : rdec s.data.toList = a := by
  rw [toList_data] at hq
  have hq' : itoa a = s.data.toList := by simpa using hq
  rw [h]
  refine rdec_yes _ ?_ (by rw [len_data]; exact h9) ?_
  · intro e; have := len_data s; rw [e] at this; simp at this; omega
  · rintro ⟨h1, h2⟩
    cases hl : s.data.toList with
    | nil => rw [hl] at h1; cases h1
    | cons c r =>
      rw [hl] at h1 h2 hq'
      obtain rfl : c = 48 := by simpa using h1
      exact rd_dec_no r a (by intro e; rw [e] at h2; simp at h2) h0 hq'

end Go.Proofs.YtcblinodfgdgfaaDoor
