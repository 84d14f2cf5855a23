/-
  Plain facts on cutting texts, without any Go: the parts of a text between gaps, its lines and its words; and which bytes a sign of a text takes.
-/
import Derived.Laws.RangeAny
import Derived.Laws.Concat
namespace Go.Proofs.Ytppkcljpfjdlnaa
set_option linter.unusedVariables false
set_option linter.unusedSimpArgs false

/-- The parts of l ahead of, between and behind the gaps. -/
def cut (p : UInt8 → Bool) : List UInt8 → List (List UInt8)
  | [] => [[]]
  | c :: r => if p c then [] :: cut p r else match cut p r with
    | [] => [[c]]
    | x :: xs => (c :: x) :: xs

theorem cut_ne (p : UInt8 → Bool) (l : List UInt8) : cut p l ≠ [] := by
  cases l with
  | nil => simp [cut]
  | cons c r =>
    simp only [cut]
    split
    · simp
    · split <;> simp

theorem cut_none (p : UInt8 → Bool) : ∀ x : List UInt8, (∀ c ∈ x, p c = false) → cut p x = [x]
  | [], _ => rfl
  | c :: r, h => by
    have hc := h c (by simp)
    rw [cut, hc, cut_none p r (fun d hd => h d (by simp [hd]))]
    simp

theorem cut_gap (p : UInt8 → Bool) (c : UInt8) (y : List UInt8) (hc : p c = true) : ∀ x : List UInt8, (∀ d ∈ x, p d = false) → cut p (x ++ c :: y) = x :: cut p y
  | [], _ => by simp [cut, hc]
  | d :: r, h => by
    have hd := h d (by simp)
    rw [List.cons_append, cut, hd, cut_gap p c y hc r (fun e he => h e (by simp [he]))]
    simp

/-- No gap stands at the places b .. k - 1. -/
def NoGap (p : UInt8 → Bool) (l : List UInt8) (b k : Nat) : Prop := ∀ j, b ≤ j → j < k → p (l.getD j 0) = false

theorem NoGap.mem {p : UInt8 → Bool} {l : List UInt8} {b k : Nat} (h : NoGap p l b k) (hk : k ≤ l.length) : ∀ d ∈ (l.drop b).take (k - b), p d = false := by
  intro d hd
  obtain ⟨i, hi, rfl⟩ := List.mem_iff_getElem.1 hd
  simp at hi
  have := h (b + i) (by omega) (by omega)
  rw [List.getElem_take, List.getElem_drop]
  have e : l.getD (b + i) 0 = l[b + i]'(by omega) := by simp [List.getD, show b + i < l.length by omega]
  rw [e] at this
  exact this

theorem cut_at (p : UInt8 → Bool) (l : List UInt8) (b k : Nat) (hb : b ≤ k) (hk : k < l.length) (hn : NoGap p l b k) (hg : p (l.getD k 0) = true) : cut p (l.drop b) = (l.drop b).take (k - b) :: cut p (l.drop (k + 1)) := by
  have hsplit : l.drop b = (l.drop b).take (k - b) ++ l[k] :: l.drop (k + 1) := by
    have h1 := (List.take_append_drop (k - b) (l.drop b)).symm
    rw [List.drop_drop, show b + (k - b) = k by omega, List.drop_eq_getElem_cons hk] at h1
    exact h1
  conv => lhs; rw [hsplit]
  refine cut_gap p _ _ ?_ _ (hn.mem (by omega))
  have e : l.getD k 0 = l[k] := by simp [List.getD, hk]
  rw [← e]; exact hg

theorem cut_end (p : UInt8 → Bool) (l : List UInt8) (b : Nat) (hn : NoGap p l b l.length) : cut p (l.drop b) = [l.drop b] := by
  refine cut_none p _ fun d hd => ?_
  have := hn.mem (Nat.le_refl _) d
  rw [List.take_of_length_le (by simp)] at this
  exact this hd

theorem NoGap.nil (p : UInt8 → Bool) (l : List UInt8) (b : Nat) : NoGap p l b b := fun j h1 h2 => by omega
theorem NoGap.step {p : UInt8 → Bool} {l : List UInt8} {b k : Nat} (h : NoGap p l b k) (m : Nat) (hm : ∀ j, k ≤ j → j < m → p (l.getD j 0) = false) : NoGap p l b m := fun j h1 h2 => by
  by_cases hj : j < k
  · exact h j h1 hj
  · exact hm j (by omega) h2

theorem cut_length (p : UInt8 → Bool) : ∀ l : List UInt8, (cut p l).length ≤ l.length + 1
  | [] => by simp [cut]
  | c :: r => by
    have := cut_length p r
    simp only [cut]
    split
    · simp; omega
    · split
      · simp
      · rename_i h; rw [h] at this; simp at this ⊢; omega

/-- What stands at a place of a text. -/
theorem getD_at (s : ByteArray) (k : Nat) (h : k < s.size) : s.data.toList.getD k 0 = s[k] := by
  have h' : k < s.data.toList.length := by simpa using h
  rw [List.getD, List.getElem?_eq_getElem h']; rfl

theorem get_at' (s : ByteArray) (k : Nat) (h : k < s.size) : s.get! k = s[k]'h := get_at s k h

/-- A sign that isn't of one byte takes bytes of 128 or more alone. -/
theorem decode_wide (s : ByteArray) (pos : Nat) (h : pos < s.size) (ha : 128 ≤ (s[pos]'h).toNat) : ∀ j, j < (Utf8.decode s pos).2 → pos + j < s.size ∧ 128 ≤ (s.data.toList.getD (pos + j) 0).toNat := by
  intro j hj
  have hn : ¬ (s[pos]'h).toNat < 128 := by omega
  have key : j = 0 ∨ (pos + j < s.size ∧ (s.get! (pos + j)).toNat / 64 = 2) := by
    simp only [Utf8.decode, get_at s pos h, hn, if_false] at hj
    split at hj
    · rename_i hc
      simp at hc
      split at hj
      · simp at hj
        rcases (show j = 0 ∨ j = 1 by omega) with rfl | rfl
        · exact .inl rfl
        · exact .inr hc.2
      · simp at hj; exact .inl hj
    · split at hj
      · rename_i hc
        simp at hc
        split at hj
        · simp at hj
          rcases (show j = 0 ∨ j = 1 ∨ j = 2 by omega) with rfl | rfl | rfl
          · exact .inl rfl
          · exact .inr hc.1.2
          · exact .inr hc.2
        · simp at hj; exact .inl hj
      · split at hj
        · rename_i hc
          simp at hc
          split at hj
          · simp at hj
            rcases (show j = 0 ∨ j = 1 ∨ j = 2 ∨ j = 3 by omega) with rfl | rfl | rfl | rfl
            · exact .inl rfl
            · exact .inr hc.1.1.2
            · exact .inr hc.1.2
            · exact .inr hc.2
          · simp at hj; exact .inl hj
        · simp at hj; exact .inl hj
  rcases key with rfl | ⟨h1, h2⟩
  · exact ⟨h, by rw [Nat.add_zero, getD_at s pos h]; exact ha⟩
  · refine ⟨h1, ?_⟩
    rw [getD_at s _ h1, ← get_at' s _ h1]
    omega

/-- A part of a text, as a text. -/
def strOf (l : List UInt8) : ByteArray := ⟨l.toArray⟩
theorem strOf_data (s : ByteArray) : strOf s.data.toList = s := rfl
theorem extract_part (s : ByteArray) (b k : Nat) : s.extract b k = strOf ((s.data.toList.drop b).take (k - b)) := by
  apply ByteArray.ext
  apply Array.ext'
  simp [strOf, ByteArray.data_extract]
theorem extract_rest (s : ByteArray) (b : Nat) : s.extract b s.size = strOf (s.data.toList.drop b) := by
  rw [extract_part, List.take_of_length_le]
  rw [List.length_drop]
  have h : s.data.toList.length = s.size := Array.length_toList
  omega
theorem strOf_size (l : List UInt8) : (strOf l).size = l.length := by simp [strOf, ByteArray.size]

end Go.Proofs.Ytppkcljpfjdlnaa
