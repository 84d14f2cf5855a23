/-
  Contracts over the library: a text cut at a sign of one byte (strings.Cut).
-/
import Derived.Test.YtppkcljpfjdlnaaShelf
import Derived.Test.YtppkcljpfjdlnaaCut
import Derived.Lib.Hide
import Derived.OwnWalk
import Derived.Deep.QuietTactic
import Derived.BigQuiet
namespace Go.Proofs.Ytppkcljpfjdlnaa
set_option linter.unusedVariables false
set_option linter.unusedSimpArgs false
open Go.RowKit

/-- Where a text's first such sign stands, its length where there is none. -/
def signAt (l : List UInt8) (c : UInt8) : Nat := (l.takeWhile fun x => x != c).length

theorem signAt_le : ∀ (l : List UInt8) (c : UInt8), signAt l c ≤ l.length
  | [], _ => by simp [signAt]
  | x :: r, c => by
    have ih := signAt_le r c
    unfold signAt at ih ⊢
    simp only [List.takeWhile]
    split
    · simpa using ih
    · simp

theorem index_sign : ∀ (l : List UInt8) (c : UInt8), Lib.indexByte l c = if signAt l c < l.length then (signAt l c : Int) else -1
  | [], c => by simp [Lib.indexByte, signAt]
  | x :: r, c => by
    have ih := index_sign r c
    have hle := signAt_le r c
    rw [Lib.indexByte]
    by_cases hx : x = c
    · subst hx
      simp [signAt, List.takeWhile]
    · have hb : (x == c) = false := by simpa using hx
      have hs : signAt (x :: r) c = signAt r c + 1 := by
        have hb2 : (x != c) = true := by simpa using hx
        simp [signAt, List.takeWhile, hb2]
      rw [hb, hs, ih]
      by_cases hr : signAt r c < r.length
      · have h1 : ¬ ((signAt r c : Int) = -1) := by omega
        simp [hr, h1]
      · simp [hr]

/-- What stands ahead of the sign, and behind it. -/
def cutA (s : ByteArray) (c : UInt8) : ByteArray := strOf (s.data.toList.take (signAt s.data.toList c))
def cutB (s : ByteArray) (c : UInt8) : ByteArray := strOf (s.data.toList.drop (signAt s.data.toList c + 1))

set_option maxRecDepth 100000 in
theorem liteCut_hit (s : ByteArray) (c : UInt8) (k : Nat) (hk : k < s.size) (hs : s.size ≤ 1048576) (H : Lib.indexByte s.data.toList c = (k : Int)) (w : World) :
    Calls Try.prog 91 #[.string s, .string ⟨#[c]⟩] w fun e w' => e = .returned (.tuple #[.string (s.extract 0 k), .string (s.extract (k + 1) s.size), .bool true]) ∧ ∃ n, w' = w.drewN n := by
  have h1 : ByteArray.size ⟨#[c]⟩ = 1 := rfl
  have c1 : (0 : Int) ≤ (k : Int) := by omega
  have c2 : (k : Int) ≤ (s.size : Int) := by omega
  have c3 : (0 : Int) ≤ (k : Int) + 1 := by omega
  have c4 : (k : Int) + 1 ≤ (s.size : Int) := by omega
  have HH := Lib.hid H
  clear H
  go_enter Try.func91, Try.ntmps91
  go_wp2_with fail
  refine (Try.stringslite_Index_one s c _).mono ?_
  rintro e w' ⟨rfl, rfl⟩
  rw [HH.out]
  go_wp2_with fail
  go_quiet (fail)
  go_wp2
  go_ret3
  exact ⟨rfl, _, rfl⟩

set_option maxRecDepth 100000 in
theorem liteCut_miss (s : ByteArray) (c : UInt8) (hs : s.size ≤ 1048576) (H : Lib.indexByte s.data.toList c = -1) (w : World) :
    Calls Try.prog 91 #[.string s, .string ⟨#[c]⟩] w fun e w' => e = .returned (.tuple #[.string s, .string ⟨#[]⟩, .bool false]) ∧ ∃ n, w' = w.drewN n := by
  have HH := Lib.hid H
  clear H
  go_enter Try.func91, Try.ntmps91
  go_wp2_with fail
  refine (Try.stringslite_Index_one s c _).mono ?_
  rintro e w' ⟨rfl, rfl⟩
  rw [HH.out]
  go_wp2
  go_ret3
  exact ⟨rfl, 0, rfl⟩

theorem liteCut_any (s : ByteArray) (c : UInt8) (hs : s.size ≤ 1048576) (w : World) :
    Calls Try.prog 91 #[.string s, .string ⟨#[c]⟩] w fun e w' => ∃ ok, e = .returned (.tuple #[.string (cutA s c), .string (cutB s c), .bool ok]) ∧ ∃ n, w' = w.drewN n := by
  have hi := index_sign s.data.toList c
  have hl : s.data.toList.length = s.size := Array.length_toList
  have hle := signAt_le s.data.toList c
  by_cases hk : signAt s.data.toList c < s.data.toList.length
  · rw [if_pos hk] at hi
    refine (liteCut_hit s c _ (by omega) hs hi w).mono ?_
    rintro e w' ⟨rfl, hw⟩
    refine ⟨true, ?_, hw⟩
    have e1 : s.extract 0 (signAt s.data.toList c) = cutA s c := by rw [extract_part]; simp [cutA]
    have e2 : s.extract (signAt s.data.toList c + 1) s.size = cutB s c := by
      rw [extract_part, cutB, List.take_of_length_le (by rw [List.length_drop]; omega)]
    rw [e1, e2]
  · rw [if_neg hk] at hi
    refine (liteCut_miss s c hs hi w).mono ?_
    rintro e w' ⟨rfl, hw⟩
    refine ⟨false, ?_, hw⟩
    have e1 : s = cutA s c := by
      rw [cutA, List.take_of_length_le (by omega), strOf_data]
    have e2 : (⟨#[]⟩ : ByteArray) = cutB s c := by
      rw [cutB, List.drop_eq_nil_of_le (by omega)]; rfl
    rw [← e1, ← e2]

theorem cut_any (s : ByteArray) (c : UInt8) (hs : s.size ≤ 1048576) (w : World) :
    Calls Try.prog 86 #[.string s, .string ⟨#[c]⟩] w fun e w' => ∃ ok, e = .returned (.tuple #[.string (cutA s c), .string (cutB s c), .bool ok]) ∧ ∃ n, w' = w.drewN n := by
  go_enter Try.func86, Try.ntmps86
  go_wp2_with fail
  refine (liteCut_any s c hs _).mono ?_
  rintro e w' ⟨ok, rfl, n, rfl⟩
  go_wp2
  go_ret3
  exact ⟨ok, rfl, n, rfl⟩

end Go.Proofs.Ytppkcljpfjdlnaa
