/-
  Contracts over the program: a line of a text without what is said behind it (l04Line), and the bytes of a text's lines (Assemble), the model's.
-/
import Derived.Test.YtffhjoldiicgdaaAsmC
import Derived.Test.YtffhjoldiicgdaaSpecCut
namespace Go.Proofs.Ytffhjoldiicgdaa
set_option linter.unusedVariables false
set_option linter.unusedSimpArgs false
open Go.RowKit

def noSemi (c : UInt8) : Bool := c != 59
def wordsL (l : List UInt8) : List (List UInt8) := (cut isBl l).filter fun x => !x.isEmpty

theorem words_eq (l : List UInt8) : wordsOf l = (wordsL l).map strOf := rfl

/-- Words with a blank between two. -/
def joinR : List (List UInt8) → List UInt8
  | [] => []
  | x :: r => 32 :: x ++ joinR r

def joinT : List (List UInt8) → List UInt8
  | [] => []
  | x :: r => x ++ joinR r

theorem joinR_append : ∀ A B : List (List UInt8), joinR (A ++ B) = joinR A ++ joinR B
  | [], B => rfl
  | x :: r, B => by simp [joinR, joinR_append r B]

theorem joinT_step (W : List (List UInt8)) (j : Nat) (h : j < W.length) : joinT (W.take (j + 1)) = joinT (W.take j) ++ ((if j = 0 then [] else [32]) ++ W.getD j []) := by
  cases W with
  | nil => simp at h
  | cons x r =>
    cases j with
    | zero => simp [joinT, joinR]
    | succ j =>
      have h' : j < r.length := by simpa using h
      simp only [List.take_succ_cons, joinT]
      rw [List.take_add_one, joinR_append, List.getElem?_eq_getElem h']
      simp [joinR, List.getD, h']

def wsum : List (List UInt8) → Nat
  | [] => 0
  | x :: r => x.length + 1 + wsum r

theorem wsum_cut (p : UInt8 → Bool) : ∀ l : List UInt8, wsum (cut p l) ≤ l.length + 1
  | [] => by simp [cut, wsum]
  | c :: r => by
    have ih := wsum_cut p r
    simp only [cut]
    split
    · simp [wsum]; omega
    · split
      · simp [wsum]
      · rename_i h; rw [h] at ih; simp [wsum] at ih ⊢; omega

theorem wsum_filter (q : List UInt8 → Bool) : ∀ L : List (List UInt8), wsum (L.filter q) ≤ wsum L
  | [] => Nat.le_refl _
  | x :: r => by
    have := wsum_filter q r
    simp only [List.filter]
    split <;> simp only [wsum] <;> omega

theorem wsum_take : ∀ (L : List (List UInt8)) (k : Nat), wsum (L.take k) ≤ wsum L
  | [], k => by simp
  | x :: r, 0 => by simp [wsum]
  | x :: r, k + 1 => by have := wsum_take r k; simp only [List.take_succ_cons, wsum]; omega

theorem wsum_at : ∀ (L : List (List UInt8)) (k : Nat), (L.getD k []).length ≤ wsum L
  | [], k => by simp
  | x :: r, 0 => by simp [List.getD, wsum]; omega
  | x :: r, k + 1 => by have := wsum_at r k; simp only [List.getD, List.getElem?_cons_succ, wsum] at this ⊢; omega

theorem joinR_len : ∀ L : List (List UInt8), (joinR L).length ≤ wsum L
  | [] => Nat.le_refl _
  | x :: r => by have := joinR_len r; simp [joinR, wsum]; omega

theorem joinT_len (L : List (List UInt8)) : (joinT L).length ≤ wsum L := by
  cases L with
  | nil => exact Nat.le_refl _
  | cons x r => have := joinR_len r; simp [joinT, wsum]; omega

theorem wordsL_wsum (l : List UInt8) : wsum (wordsL l) ≤ l.length + 1 := Nat.le_trans (wsum_filter _ _) (wsum_cut _ _)
theorem wordsL_len (l : List UInt8) : (wordsL l).length ≤ l.length + 1 := Nat.le_trans (List.length_filter_le _ _) (cut_length _ _)

/-- A line without what is said behind a semicolon, its words with a blank between two. -/
def lineT (l : List UInt8) : List UInt8 := joinT (wordsL (l.takeWhile noSemi))

theorem lineT_len (l : List UInt8) : (lineT l).length ≤ l.length + 1 := by
  have h1 := joinT_len (wordsL (l.takeWhile noSemi))
  have h2 := wordsL_wsum (l.takeWhile noSemi)
  have h3 : (l.takeWhile noSemi).length ≤ l.length := (List.takeWhile_sublist _).length_le
  unfold lineT; omega

theorem noSemi_iff (c : UInt8) : noSemi c = !((c.toNat : Int) == 59) := by
  unfold noSemi
  rw [Bool.eq_iff_iff]; simp
  constructor
  · intro h e; exact h (UInt8.toNat_inj.1 (show c.toNat = 59 by omega))
  · intro h e; rw [e] at h; exact h rfl

/-- A row of texts, cell by cell. -/
theorem strs_at {w : World} {base : Nat} {v : Value} {L : List ByteArray} (h : OwnStrs w base v L) : ∃ a cap, v = .slice a L.length cap ∧ (0 < L.length → ∃ g, a = some ⟨g, 0, none⟩ ∧ g < w.heap.size ∧ base ≤ g ∧ ∀ i, i < L.length → w.cell? ⟨g, i, none⟩ = some (.string (L.getD i ByteArray.empty))) := by
  have h' := h
  rcases h.2 with ⟨rfl, h0⟩ | ⟨g, cap, cur, rfl, hb, hg, h1, h2, h3, _⟩
  · exact ⟨none, 0, by rw [h0], fun hl => by omega⟩
  · refine ⟨_, _, rfl, fun _ => ⟨g, rfl, (Array.getElem?_eq_some_iff.1 hg).1, hb, fun i hi => ?_⟩⟩
    have := World.ownsRow.cells h' (g := g) rfl i (.string (L.getD i ByteArray.empty)) (by simp [List.getD, hi])
    rwa [addrB] at this

theorem strOf_app (a b : List UInt8) : strOf a ++ strOf b = strOf (a ++ b) := by
  apply ByteArray.ext
  simp [strOf, ByteArray.data_append]

theorem rd_neg : ∀ (l : List UInt8) (n : Int), 0 ≤ n → rd 16 l n = -1 ∨ (0 ≤ rd 16 l n ∧ rd 16 l n < (n + 1) * 16 ^ l.length)
  | [], n, h => .inr (by simp [rd]; omega)
  | c :: r, n, h => by
    rw [rd]
    split
    · exact .inl rfl
    · rename_i hc
      have h1 := (dig_le (c.toNat : Int)).2
      rcases rd_neg r (n * 16 + dig (c.toNat : Int)) (by omega) with ih | ih
      · exact .inl ih
      · refine .inr ⟨ih.1, Int.lt_of_lt_of_le ih.2 ?_⟩
        have hp : (0 : Int) ≤ 16 ^ r.length := Int.pow_nonneg (by omega)
        calc (n * 16 + dig (c.toNat : Int) + 1) * 16 ^ r.length ≤ ((n + 1) * 16) * 16 ^ r.length := Int.mul_le_mul_of_nonneg_right (by omega) hp
          _ = (n + 1) * 16 ^ (c :: r).length := by rw [List.length_cons, Int.pow_succ, Int.mul_assoc, Int.mul_comm 16]

theorem rd_small (l : List UInt8) (hl : l.length ≤ 2) (h : 0 ≤ rd 16 l 0) : rd 16 l 0 < 256 := by
  rcases rd_neg l 0 (by omega) with e | ⟨_, e⟩
  · omega
  · have hp : (16 : Int) ^ l.length ≤ 256 := by
      have : l.length = 0 ∨ l.length = 1 ∨ l.length = 2 := by omega
      rcases this with q | q | q <;> rw [q] <;> decide
    omega

/-- The byte of a line that tells one. -/
def byteLine (x : List UInt8) : Option Nat :=
  if x.length = 9 ∧ x.take 7 = [46, 98, 121, 116, 101, 32, 36] ∧ 0 ≤ rd 16 (x.drop 7) 0 then some (hexN (x.drop 7)) else none

def asmLine (x : List UInt8) (pc : Nat) : Option (List Nat) :=
  match byteLine x with
  | some b => some [b]
  | none => readOp (strOf x) pc

def asmFrom (org : Nat) : List ByteArray → Nat → List Nat → List Nat × Nat
  | [], _, out => (out, 0)
  | x :: r, i, out =>
    if (lineT x.data.toList).isEmpty then asmFrom org r (i + 1) out
    else match asmLine (lineT x.data.toList) ((org + out.length) % 65536) with
      | none => ([], i + 1)
      | some b => if 1024 < out.length + b.length then ([], i + 1) else asmFrom org r (i + 1) (out ++ b)

/-- What Assemble is to tell: the bytes, and 0; or none, and the number of a line. -/
def assemble (s : ByteArray) (org : Nat) : List Nat × Nat := if 20000 < s.size then ([], 1) else asmFrom org (linesOf s.data.toList) 0 []

theorem drop_getD (L : List ByteArray) (j : Nat) (h : j < L.length) : L.drop j = L.getD j ByteArray.empty :: L.drop (j + 1) := by
  rw [List.drop_eq_getElem_cons h]; simp [List.getD, h]

theorem line_len (l : List UInt8) (i : Nat) : ((linesOf l).getD i ByteArray.empty).size ≤ l.length + 1 := by
  unfold linesOf
  generalize (if (cut isNl l).getLast? = some [] then (cut isNl l).length - 1 else (cut isNl l).length) = m
  by_cases h : i < (((cut isNl l).map strOf).take m).length
  · have e : (((cut isNl l).map strOf).take m).getD i ByteArray.empty = strOf ((cut isNl l).getD i []) := by
      have h2 : i < (cut isNl l).length := by simp at h; omega
      have h3 : i < m := by simp at h; omega
      simp [List.getD, List.getElem?_take, h3, h2]
    rw [e, strOf_size]
    exact Nat.le_trans (wsum_at _ i) (wsum_cut _ _)
  · rw [List.getD, List.getElem?_eq_none (by omega)]; simp

theorem OwnB.base {w : World} {b b' : Nat} {v : Value} {L : List Nat} (h : OwnB w b v L) (hb : b' ≤ b) : OwnB w b' v L := by
  refine ⟨h.1, h.2.1, ?_⟩
  rcases h.2.2 with hn | ⟨g, cap, cur, hv, hg, rest⟩
  · exact .inl hn
  · exact .inr ⟨g, cap, cur, hv, Nat.le_trans hb hg, rest⟩

theorem OwnB.cells {w : World} {base : Nat} {v : Value} {L : List Nat} (h : OwnB w base v L) (hl : 0 < L.length) : ∃ g cap, v = .slice (some ⟨g, 0, none⟩) L.length cap ∧ ∀ j u, (L.map u8V)[j]? = some u → w.cell? ((⟨g, 0, none⟩ : Addr).add j) = some u := by
  have h' := h.2
  rcases h.2.2 with ⟨_, h0⟩ | ⟨g, cap, cur, rfl, _⟩
  · omega
  · exact ⟨g, cap, rfl, World.ownsRow.cells h' (g := g) rfl⟩

theorem u8V_one (L : List Nat) : ∀ u ∈ L.map u8V, u.oneCell' = true := by
  intro u hu
  obtain ⟨x, _, rfl⟩ := List.mem_map.1 hu
  rfl

theorem byteLine_some {x : List UInt8} {b : Nat} (h : byteLine x = some b) : x.length = 9 ∧ x.take 7 = [46, 98, 121, 116, 101, 32, 36] ∧ rhex (strOf (x.drop 7)) 2 = b ∧ b < 256 := by
  unfold byteLine at h
  split at h
  · rename_i hc
    obtain ⟨h1, h2, h3⟩ := hc
    have hl : (x.drop 7).length = 2 := by simp; omega
    have e : rhex (strOf (x.drop 7)) 2 = rd 16 (x.drop 7) 0 := rhex_yes _ _ ⟨by omega, by omega, by rw [strOf_size, hl]; rfl⟩
    have hb : hexN (x.drop 7) = b := by simpa using h
    have h256 : rd 16 (x.drop 7) 0 < 256 := rd_small _ (by omega) h3
    refine ⟨h1, h2, ?_, ?_⟩
    · rw [e, ← hb, hexN]; omega
    · rw [← hb, hexN]; omega
  · simp at h

theorem readFrom_hits {s : ByteArray} {pc : Nat} : ∀ (n j i : Nat), j + n = 256 → readFrom s pc n j = some i → i < 256 ∧ ((opName i).toList == (s.extract 0 3).toList) = true
  | 0, j, i, _, h => by simp [readFrom] at h
  | n + 1, j, i, h1, h => by
    rw [readFrom] at h
    split at h
    · rename_i hh
      obtain rfl : j = i := by simpa using h
      unfold readHit at hh
      rw [Bool.and_eq_true] at hh
      exact ⟨by omega, hh.1⟩
    · exact readFrom_hits n (j + 1) i (by omega) h

theorem emptyOwn {base B : Nat} (w : World) (hB : B = w.heap.size) (hb : base ≤ w.heap.size) : (w.alloc (.cells #[] 5)).ownsRow base 5 1 (.slice (some ⟨B, 0, none⟩) 0 0) 0 [] := by
  subst hB; exact World.ownsRow_made w #[] 0 hb (by decide) rfl

theorem bytes_app {A B : List Nat} (hA : ∀ i, i < A.length → A.getD i 0 < 256) (hB : ∀ i, i < B.length → B.getD i 0 < 256) : ∀ i, i < (A ++ B).length → (A ++ B).getD i 0 < 256 := by
  intro i hi
  rw [List.getD]
  by_cases h : i < A.length
  · rw [List.getElem?_append_left h]; exact hA i h
  · rw [List.getElem?_append_right (by omega)]
    rw [List.length_append] at hi
    exact hB (i - A.length) (by omega)

theorem readOp_len {s : ByteArray} {pc : Nat} {l : List Nat} (h : readOp s pc = some l) : 1 ≤ l.length ∧ l.length ≤ 3 := by
  unfold readOp at h
  split at h
  · simp at h
  · rename_i hs
    cases hf : readFrom s pc 256 0 with
    | none => rw [hf] at h; simp at h
    | some i =>
      rw [hf] at h
      have hl : opBytes (readNum s.data.toList) pc i = l := by simpa using h
      obtain ⟨hi, hh⟩ := readFrom_hits 256 0 i (by omega) hf
      have hid := opId_named hi (by omega) hh
      have := opSize_pos hi hid
      have := (opSize_range hi).2
      rw [← hl, opBytes, List.length_take]
      simp only [List.length_cons, List.length_nil]
      omega

end Go.Proofs.Ytffhjoldiicgdaa
