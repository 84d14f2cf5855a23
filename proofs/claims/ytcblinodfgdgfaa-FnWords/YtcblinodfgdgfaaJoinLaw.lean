/-
  Plain facts, without any Go: words with blanks behind them are those words again, and lines with newlines behind them are the text, or the text and a newline.
-/
import Derived.Test.YtcblinodfgdgfaaImplCut
namespace Go.Proofs.Ytcblinodfgdgfaa

/-- The texts, each with a sign behind it. -/
def joinB (c : UInt8) (L : List ByteArray) : List UInt8 := L.flatMap fun x => x.data.toList ++ [c]
def joinL (c : UInt8) (L : List (List UInt8)) : List UInt8 := L.flatMap fun x => x ++ [c]

theorem joinB_map (c : UInt8) (L : List (List UInt8)) : joinB c (L.map strOf) = joinL c L := by
  unfold joinB joinL
  rw [List.flatMap_map]
  rfl

theorem joinB_take (c : UInt8) (L : List ByteArray) (k : Nat) (h : k < L.length) : joinB c (L.take (k + 1)) = joinB c (L.take k) ++ ((L.getD k ByteArray.empty).data.toList ++ [c]) := by
  have e : L.getD k ByteArray.empty = L[k] := by simp [List.getD, h]
  rw [List.take_succ_eq_append_getElem h, e]
  unfold joinB
  rw [List.flatMap_append]
  congr 1
  simp

theorem joinB_le (c : UInt8) (L : List ByteArray) (k : Nat) : (joinB c (L.take k)).length ≤ (joinB c L).length := by
  have h : joinB c L = joinB c (L.take k) ++ joinB c (L.drop k) := by
    unfold joinB
    rw [← List.flatMap_append, List.take_append_drop]
  rw [h]; simp

theorem join_cut (p : UInt8 → Bool) (c : UInt8) (hp : ∀ d, p d = true → d = c) : ∀ l : List UInt8, joinL c (cut p l) = l ++ [c]
  | [] => rfl
  | d :: r => by
    have ih := join_cut p c hp r
    simp only [cut]
    by_cases hd : p d = true
    · rw [if_pos hd]
      have := hp d hd
      subst this
      show [d] ++ joinL d (cut p r) = _
      rw [ih]; simp
    · rw [if_neg hd]
      cases hc : cut p r with
      | nil => exact absurd hc (cut_ne p r)
      | cons x xs =>
        rw [hc] at ih
        show (d :: x ++ [c]) ++ joinL c xs = _
        have : joinL c (x :: xs) = (x ++ [c]) ++ joinL c xs := rfl
        rw [this] at ih
        simpa using ih

theorem isNl_only (d : UInt8) (h : isNl d = true) : d = 10 := by simpa [isNl] using h

/-- The lines with newlines behind them: the text, or the text and a newline where that isn't empty. -/
theorem lines_joined (s : ByteArray) : joinB 10 (linesOf s.data.toList) = s.data.toList ∨ (joinB 10 (linesOf s.data.toList) = s.data.toList ++ [10] ∧ s.data.toList ≠ []) := by
  obtain ⟨init, x, hx⟩ := parts_last isNl s
  have hj : joinB 10 (partsOf isNl s) = s.data.toList ++ [10] := by
    unfold partsOf
    rw [joinB_map, join_cut isNl 10 isNl_only]
  rw [lines_last s init x hx]
  by_cases he : x.toList.isEmpty = true
  · rw [if_pos he]
    left
    rw [hx] at hj
    have hxe : x.data.toList = [] := by rw [← ByteArray.toList_eq]; simpa using he
    unfold joinB at hj ⊢
    rw [List.flatMap_append] at hj
    simp [hxe] at hj
    exact hj
  · rw [if_neg he, ← hx]
    right
    refine ⟨hj, fun h0 => he ?_⟩
    have : partsOf isNl s = [strOf []] := by unfold partsOf; rw [h0]; rfl
    rw [this] at hx
    have hlen : init.length = 0 := by
      have := congrArg List.length hx
      rw [List.length_append] at this
      simpa using this
    have hi : init = [] := List.eq_nil_of_length_eq_zero hlen
    rw [hi] at hx
    have : strOf [] = x := by simpa using hx
    rw [← this, ByteArray.toList_eq]; rfl

theorem cut_no (p : UInt8 → Bool) : ∀ (l : List UInt8), ∀ x ∈ cut p l, ∀ d ∈ x, p d = false
  | [], x, hx, d, hd => by simp [cut] at hx; subst hx; simp at hd
  | c :: r, x, hx, d, hd => by
    have ih := cut_no p r
    simp only [cut] at hx
    by_cases hc : p c = true
    · rw [if_pos hc] at hx
      rcases List.mem_cons.1 hx with rfl | hx
      · simp at hd
      · exact ih x hx d hd
    · rw [if_neg hc] at hx
      cases hr : cut p r with
      | nil => exact absurd hr (cut_ne p r)
      | cons y ys =>
        rw [hr] at hx ih
        rcases List.mem_cons.1 hx with rfl | hx
        · rcases List.mem_cons.1 hd with rfl | hd
          · simpa using hc
          · exact ih y (by simp) d hd
        · exact ih x (by simp [hx]) d hd

theorem cut_join (p : UInt8 → Bool) (c : UInt8) (hc : p c = true) : ∀ L : List (List UInt8), (∀ x ∈ L, ∀ d ∈ x, p d = false) → cut p (joinL c L) = L ++ [[]]
  | [], _ => rfl
  | x :: r, h => by
    have e : joinL c (x :: r) = x ++ c :: joinL c r := by simp [joinL]
    rw [e, cut_gap p c _ hc x (h x (by simp)), cut_join p c hc r (fun y hy => h y (by simp [hy]))]
    rfl

/-- Words with blanks behind them are those words again. -/
theorem words_joined (l : List UInt8) : wordsOf (joinB 32 (wordsOf l)) = wordsOf l := by
  have hw : wordsOf l = (((cut isBl l).filter fun x => !x.isEmpty)).map strOf := rfl
  rw [hw, joinB_map]
  unfold wordsOf
  rw [cut_join isBl 32 (by decide) _ (fun x hx => cut_no isBl l x ((List.mem_filter.1 hx).1)), List.filter_append, List.filter_filter]
  simp

theorem joinL_sub (c : UInt8) {A B : List (List UInt8)} (h : A.Sublist B) : (joinL c A).length ≤ (joinL c B).length := by
  induction h with
  | slnil => simp
  | cons a _ ih => simp [joinL] at ih ⊢; omega
  | cons_cons a _ ih => simp [joinL] at ih ⊢; omega

theorem words_short (s : ByteArray) : (joinB 32 (wordsOf s.data.toList)).length ≤ 2 * s.size + 1 := by
  have hw : wordsOf s.data.toList = (((cut isBl s.data.toList).filter fun x => !x.isEmpty)).map strOf := rfl
  have e : s.data.toList.length = s.size := Array.length_toList
  rw [hw, joinB_map]
  refine Nat.le_trans (joinL_sub 32 List.filter_sublist) ?_
  have : ∀ l : List UInt8, (joinL 32 (cut isBl l)).length ≤ l.length + 1 := by
    intro l
    induction l with
    | nil => simp [cut, joinL]
    | cons c r ih =>
      simp only [cut]
      split
      · simp [joinL] at ih ⊢; omega
      · split
        · simp [joinL]
        · rename_i h; rw [h] at ih; simp [joinL] at ih ⊢; omega
  have := this s.data.toList
  omega

theorem lines_short (s : ByteArray) : (joinB 10 (linesOf s.data.toList)).length ≤ s.size + 1 := by
  have e : s.data.toList.length = s.size := Array.length_toList
  rcases lines_joined s with h | ⟨h, _⟩
  · rw [h]; omega
  · rw [h, List.length_append]; simp

theorem step_join (c : UInt8) (A : List UInt8) (x : ByteArray) : ByteArray.mk A.toArray ++ x ++ ByteArray.mk #[c] = ⟨(A ++ (x.data.toList ++ [c])).toArray⟩ := by
  apply ByteArray.ext
  apply Array.ext'
  simp [ByteArray.data_append]

end Go.Proofs.Ytcblinodfgdgfaa
