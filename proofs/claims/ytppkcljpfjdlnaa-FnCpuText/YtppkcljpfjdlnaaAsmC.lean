/-
  Contracts over the program: the bytes of an operation's text (ReadOp), the model's.
-/
import Derived.Test.YtppkcljpfjdlnaaAsmB
import Derived.Test.YtppkcljpfjdlnaaBytes
import Derived.Deep.RegionHeld3
import Derived.Laws.Pointers
import Derived.RangeFuncBox
namespace Go.Proofs.Ytppkcljpfjdlnaa
set_option linter.unusedVariables false
set_option linter.unusedSimpArgs false
open Go.RowKit

/-- The number of a text's digits in base 16. -/
def hexN (l : List UInt8) : Nat := (rd 16 l 0).toNat

theorem rd_hx : ∀ (l : List UInt8) (n : Int), 0 ≤ n → (∀ c ∈ l, isHx c = true) → 0 ≤ rd 16 l n ∧ rd 16 l n < (n + 1) * 16 ^ l.length
  | [], n, h, _ => by simp [rd]; omega
  | c :: r, n, h, hc => by
    have h0 : 0 ≤ dig (c.toNat : Int) := by simpa [isHx] using hc c (by simp)
    have h1 := (dig_le (c.toNat : Int)).2
    have ih := rd_hx r (n * 16 + dig (c.toNat : Int)) (by omega) (fun x hx => hc x (by simp [hx]))
    rw [rd, if_neg (by omega)]
    refine ⟨ih.1, Int.lt_of_lt_of_le ih.2 ?_⟩
    have hp : (0 : Int) ≤ 16 ^ r.length := Int.pow_nonneg (by omega)
    calc (n * 16 + dig (c.toNat : Int) + 1) * 16 ^ r.length ≤ ((n + 1) * 16) * 16 ^ r.length := Int.mul_le_mul_of_nonneg_right (by omega) hp
      _ = (n + 1) * 16 ^ (c :: r).length := by rw [List.length_cons, Int.pow_succ, Int.mul_assoc, Int.mul_comm 16]

theorem digitsL_hx (l : List UInt8) : ∀ c ∈ digitsL l, isHx c = true := fun c hc => by
  unfold digitsL at hc
  generalize List.drop (dolAt l + 1) l = r at hc
  induction r with
  | nil => simp at hc
  | cons x r ih =>
    simp only [List.takeWhile] at hc
    split at hc
    · rename_i hx
      rcases List.mem_cons.1 hc with rfl | h
      · exact hx
      · exact ih h
    · simp at hc

/-- The number behind a text's dollar sign, where it has two digits or four. -/
def readNum (l : List UInt8) : Nat := if (digitsL l).length = 2 ∨ (digitsL l).length = 4 then hexN (digitsL l) else 0

theorem hexN_lt (l : List UInt8) (hl : l.length ≤ 4) (hc : ∀ c ∈ l, isHx c = true) : hexN l < 65536 ∧ rd 16 l 0 = (hexN l : Int) := by
  have h := rd_hx l 0 (by omega) hc
  have hp : (16 : Int) ^ l.length ≤ 65536 := by
    have : l.length = 0 ∨ l.length = 1 ∨ l.length = 2 ∨ l.length = 3 ∨ l.length = 4 := by omega
    rcases this with e | e | e | e | e <;> rw [e] <;> decide
  unfold hexN
  omega

theorem readNum_lt (l : List UInt8) : readNum l < 65536 := by
  unfold readNum
  split
  · exact (hexN_lt _ (by omega) (digitsL_hx l)).1
  · omega

/-- The byte behind the first one, by the number that is read. -/
def cand1 (N pc i : Nat) : Nat := if opMode i = 12 then (((N : Int) - pc - 2) % 256).toNat else N % 256

def readHit (s : ByteArray) (pc i : Nat) : Bool :=
  ((opName i).toList == (s.extract 0 3).toList) && ((showTx i (cand1 (readNum s.data.toList) pc i) (readNum s.data.toList / 256) pc).toList == s.toList)

def readFrom (s : ByteArray) (pc : Nat) : Nat → Nat → Option Nat
  | 0, _ => none
  | n + 1, i => if readHit s pc i then some i else readFrom s pc n (i + 1)

/-- The bytes of an operation whose text has number N. -/
def opBytes (N pc i : Nat) : List Nat := [i, cand1 N pc i, N / 256].take (opSize i).toNat

/-- What ReadOp is to tell: the bytes, where there are such. -/
def readOp (s : ByteArray) (pc : Nat) : Option (List Nat) :=
  if s.size < 3 ∨ 12 < s.size then none else (readFrom s pc 256 0).map (opBytes (readNum s.data.toList) pc)

theorem readFrom_hit {s : ByteArray} {pc j : Nat} (hj : j < 256) (h : readHit s pc j = true) : readFrom s pc (256 - j) j = some j := by
  obtain ⟨n, hn⟩ : ∃ n, 256 - j = n + 1 := ⟨255 - j, by omega⟩
  rw [hn, readFrom, if_pos h]

theorem readFrom_miss {s : ByteArray} {pc j : Nat} (hj : j < 256) (h : readHit s pc j = false) : readFrom s pc (256 - j) j = readFrom s pc (256 - (j + 1)) (j + 1) := by
  obtain ⟨n, hn⟩ : ∃ n, 256 - j = n + 1 := ⟨255 - j, by omega⟩
  have hn2 : 256 - (j + 1) = n := by omega
  rw [hn, hn2, readFrom, if_neg (by simp [h])]

theorem cand1_lt (N pc i : Nat) : cand1 N pc i < 256 := by unfold cand1; split <;> omega

theorem blkKept {w w1 : World} {B : Nat} {o : Obj} (hb : Below w.heap.size w w1) (h : w.heap[B]? = some o) : w1.heap[B]? = some o :=
  (hb.block B (Array.getElem?_eq_some_iff.1 h).1).trans h
theorem blkCell {w : World} {B i : Nat} {cs : Array Value} {t : TypeId} (h : w.heap[B]? = some (.cells cs t (0, 0))) : w.cell? ⟨B, i, none⟩ = cs[i]? := by simp [World.cell?, h]
theorem blkFree {w : World} {B i : Nat} {cs : Array Value} {t : TypeId} (h : w.heap[B]? = some (.cells cs t (0, 0))) : w.frozen? ⟨B, i, none⟩ = false := by simp [World.frozen?, h]
theorem blkSet {w : World} {B i : Nat} {cs : Array Value} {t : TypeId} {u : Value} (h : w.heap[B]? = some (.cells cs t (0, 0))) : (w.setCell ⟨B, i, none⟩ u).heap[B]? = some (.cells (cs.setIfInBounds i u) t (0, 0)) := by
  obtain ⟨hlt, hk⟩ := Array.getElem?_eq_some_iff.1 h
  show (w.heap.modify B _)[B]? = _
  rw [Array.getElem?_eq_getElem (by rw [Array.size_modify]; exact hlt), Array.getElem_modify_self, hk]
  rfl

/-- Three bytes in a block of their own, of which k are told. -/
theorem ownThree {w : World} {B base k x0 x1 x2 : Nat} (hb : base ≤ B) (hk : k ≤ 3) (h0 : x0 < 256) (h1 : x1 < 256) (h2 : x2 < 256) (h : w.heap[B]? = some (.cells #[.int .u8 x0, .int .u8 x1, .int .u8 x2] 5 (0, 0))) :
    OwnB w base (.slice (some ⟨B, 0, none⟩) k 3) ([x0, x1, x2].take k) := by
  have hk' : k = 0 ∨ k = 1 ∨ k = 2 ∨ k = 3 := by omega
  refine ⟨fun i hi => ?_, ?_, .inr ⟨B, 3, _, ?_, hb, h, ?_, by decide, rfl, ?_⟩⟩
  · have hm : ([x0, x1, x2].take k).getD i 0 ∈ [x0, x1, x2] := by
      rw [List.getD, List.getElem?_eq_getElem hi]
      exact List.mem_of_mem_take (List.getElem_mem hi)
    simp only [List.mem_cons, List.not_mem_nil, or_false] at hm
    rcases hm with e | e | e <;> rw [e] <;> assumption
  · simp
  · rw [show ([x0, x1, x2].take k).length = k by simp; omega]
  · simp; omega
  · rcases hk' with rfl | rfl | rfl | rfl <;> rfl

theorem three_of {w : World} {B k x0 x1 x2 : Nat} (h : w.heap[B]? = some (.cells #[.int .u8 x0, .int .u8 x1, .int .u8 x2] 5 (0, 0))) : Three w (some ⟨B, 0, none⟩) k x0 x1 x2 :=
  .inr ⟨B, 0, rfl, (Array.getElem?_eq_some_iff.1 h).1, blkCell h, fun _ => blkCell h, fun _ => blkCell h⟩

theorem showOp_full {k x0 x1 x2 pc : Nat} (hk : opSize x0 = (k : Int)) (h1 : 1 ≤ k) : showOp k x0 x1 x2 pc = showTx x0 x1 x2 pc := by
  rw [showOp, if_neg (by omega)]

theorem specName_at (b : Nat) (hb : b < 256) (x : Int) (hx : x = b) (w : World) :
    Calls Try.prog 81 #[.int .u8 x] w fun e w' => e = .returned (.string (opName b)) ∧ Below w.heap.size w w' := by
  subst hx; exact specName_any b hb w

theorem wrapByte {j : Nat} (hj : j < 256) : IntKind.u8.wrap (j : Int) = j := by rw [IntKind.wrap_u8']; omega

theorem opSize_pos {b : Nat} (hb : b < 256) (h : opId b ≠ 0) : 1 ≤ opSize b := by
  have := byte_all (p := fun b => opId b = 0 ∨ 1 ≤ opSize b) (by decide +kernel) hb
  exact this.resolve_left h

theorem opId_named {s : ByteArray} {j : Nat} (hj : j < 256) (h3 : 3 ≤ s.size) (hn : ((opName j).toList == (s.extract 0 3).toList) = true) : opId j ≠ 0 := by
  intro e
  have e1 := opName_empty hj
  rw [e, eq_of_beq hn, ByteArray.toList_eq] at e1
  have e3 : (s.extract 0 3).size = 3 := by rw [ByteArray.size_extract]; omega
  have e4 : (s.extract 0 3).data.toList.length = 3 := by rw [Array.length_toList]; exact e3
  have e5 : (s.extract 0 3).data.toList = [] := by simpa using e1
  rw [e5] at e4
  simp at e4

/-- The digits of a text, as the program reads them: two, four, or others. -/
def DigitsAre (D : List UInt8) (N : Nat) : Prop :=
  (((D.length : Int) == 2) = true ∧ rhex (strOf D) D.length = N) ∨ (((D.length : Int) == 2) = false ∧ ((D.length : Int) == 4) = true ∧ rhex (strOf D) D.length = N) ∨ (((D.length : Int) == 2) = false ∧ ((D.length : Int) == 4) = false ∧ N = 0)

theorem digitsAre (l : List UInt8) : DigitsAre (digitsL l) (readNum l) := by
  have key : ((digitsL l).length = 2 ∨ (digitsL l).length = 4) → rhex (strOf (digitsL l)) (digitsL l).length = (readNum l : Int) := fun h => by
    rw [rhex_yes _ _ ⟨by omega, by omega, by rw [strOf_size]⟩, readNum, if_pos h]
    exact (hexN_lt _ (by omega) (digitsL_hx l)).2
  by_cases h2 : (digitsL l).length = 2
  · exact .inl ⟨by rw [h2]; rfl, key (.inl h2)⟩
  by_cases h4 : (digitsL l).length = 4
  · exact .inr (.inl ⟨by rw [h4]; rfl, by rw [h4]; rfl, key (.inr h4)⟩)
  · exact .inr (.inr ⟨by simp; omega, by simp; omega, by rw [readNum, if_neg (by omega)]⟩)

end Go.Proofs.Ytppkcljpfjdlnaa
