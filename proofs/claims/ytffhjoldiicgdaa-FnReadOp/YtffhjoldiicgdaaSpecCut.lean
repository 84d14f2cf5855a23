/-
  Contracts over the program: spec.Lines and spec.Words give rows of their own that hold the text's lines and words.
-/
import Derived.Test.YtffhjoldiicgdaaRows
import Derived.Test.YtffhjoldiicgdaaCut
import Derived.WalkKit
import Derived.WalkSpells
import Derived.WalkLawsBesides
import Derived.OwnWalk
import Derived.Maps.AppendAt
import Derived.Lib.Hide
import Derived.RangeFuncBox
namespace Go.Proofs.Ytffhjoldiicgdaa
set_option linter.unusedVariables false
set_option linter.unusedSimpArgs false
open Go.RowKit

/-- v is a slice over a row of its own, from base on, that holds these texts. -/
def OwnStrs (w : World) (base : Nat) (v : Value) (L : List ByteArray) : Prop := w.ownsRow base 9 1 v L.length (L.map Value.string)

theorem infoStr : (Try.prog.info? 9).map (fun i => (i.zero, i.size, i.bytes)) = some (some (.string ⟨#[]⟩), 1, 16) := by kernel_rfl

def isNl (c : UInt8) : Bool := c == 10
def isBl (c : UInt8) : Bool := c == 32 || c == 9

theorem isNl_iff (c : UInt8) : isNl c = ((c.toNat : Int) == 10) := by
  unfold isNl
  rw [Bool.eq_iff_iff]; simp
  constructor
  · intro h; rw [h]; rfl
  · intro h; apply UInt8.toNat_inj.1; show c.toNat = 10; omega

/-- The lines of a text. -/
def linesOf (l : List UInt8) : List ByteArray := ((cut isNl l).map strOf).take (if (cut isNl l).getLast? = some [] then (cut isNl l).length - 1 else (cut isNl l).length)

/-- What has come of the lines when the text behind 'from' is left. -/
theorem lines_done (l : List UInt8) (pre : List (List UInt8)) (f : Nat) (h : pre ++ cut isNl (l.drop f) = cut isNl l) (hn : NoGap isNl l f l.length) :
    linesOf l = if f < l.length then pre.map strOf ++ [strOf (l.drop f)] else pre.map strOf := by
  rw [cut_end isNl l f hn] at h
  unfold linesOf
  rw [← h]
  by_cases hf : f < l.length
  · have hne : l.drop f ≠ [] := by intro e; have := congrArg List.length e; simp at this; omega
    rw [if_pos hf, if_neg (by simpa using hne), List.take_of_length_le (by simp)]
    simp
  · have he : l.drop f = [] := List.drop_eq_nil_of_le (by omega)
    rw [if_neg hf, he, if_pos (by simp)]
    simp

theorem own_len {w : World} {base : Nat} {v : Value} {L : List ByteArray} (h : OwnStrs w base v L) : ∃ a cap, v = .slice a L.length cap := by
  rcases h.2 with ⟨rfl, h0⟩ | ⟨g, cap, _, rfl, _⟩
  · exact ⟨none, 0, by rw [h0]⟩
  · exact ⟨_, _, rfl⟩

/-- The words of a text. -/
def wordsOf (l : List UInt8) : List ByteArray := ((cut isBl l).filter fun x => !x.isEmpty).map strOf

theorem isBl_iff (c : UInt8) : isBl c = (((c.toNat : Int) == 32) || ((c.toNat : Int) == 9)) := by
  have h32 : (c == 32) = ((c.toNat : Int) == 32) := by
    rw [Bool.eq_iff_iff]; simp
    constructor
    · intro h; rw [h]; rfl
    · intro h; apply UInt8.toNat_inj.1; show c.toNat = 32; omega
  have h9 : (c == 9) = ((c.toNat : Int) == 9) := by
    rw [Bool.eq_iff_iff]; simp
    constructor
    · intro h; rw [h]; rfl
    · intro h; apply UInt8.toNat_inj.1; show c.toNat = 9; omega
  unfold isBl
  rw [h32, h9]

/-- The words that are still to come behind a place. -/
def wordsFrom (l : List UInt8) (k : Nat) : List (List UInt8) := (cut isBl (l.drop k)).filter fun x => !x.isEmpty

theorem words_blank (l : List UInt8) (k : Nat) (hk : k < l.length) (hb : isBl (l.getD k 0) = true) : wordsFrom l k = wordsFrom l (k + 1) := by
  unfold wordsFrom
  rw [cut_at isBl l k k (Nat.le_refl _) hk (NoGap.nil _ _ _) hb]
  simp

theorem words_end (l : List UInt8) (k : Nat) (hk : l.length ≤ k) : wordsFrom l k = [] := by
  unfold wordsFrom
  rw [List.drop_eq_nil_of_le hk]
  rfl

theorem words_word (l : List UInt8) (b k : Nat) (hb : b < k) (hk : k ≤ l.length) (hn : NoGap isBl l b k) (he : k = l.length ∨ isBl (l.getD k 0) = true) : wordsFrom l b = (l.drop b).take (k - b) :: wordsFrom l k := by
  have hne : ((l.drop b).take (k - b)).isEmpty = false := by
    cases hc : (l.drop b).take (k - b) with
    | nil => have := congrArg List.length hc; simp at this; omega
    | cons _ _ => rfl
  by_cases hkl : k < l.length
  · have hg := he.resolve_left (by omega)
    rw [words_blank l k hkl hg]
    unfold wordsFrom
    rw [cut_at isBl l b k (by omega) hkl hn hg]
    simp [hne]
  · have hkl' : k = l.length := by omega
    rw [words_end l k (by omega)]
    subst hkl'
    unfold wordsFrom
    rw [cut_end isBl l b hn]
    rw [List.take_of_length_le (by simp)] at hne ⊢
    simp [hne]

end Go.Proofs.Ytffhjoldiicgdaa
