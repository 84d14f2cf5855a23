/-
  Contracts over the program: the bytes of an operation's text (ReadOp), the model's.
-/
import Derived.Test.YtffhjoldiicgdaaAsmB
import Derived.Test.YtffhjoldiicgdaaBytes
import Derived.Deep.RegionHeld3
import Derived.Laws.Pointers
import Derived.RangeFuncBox
namespace Go.Proofs.Ytffhjoldiicgdaa
set_option linter.unusedVariables false
set_option linter.unusedSimpArgs false
open Go.RowKit

/-- The number of a text's digits in base 16. -/
def hexN (l : List UInt8) : Nat := (rd 16 l 0).toNat

theorem rd_hx : ∀ (l : List UInt8) (n : Int), 0 ≤ n → (∀ c ∈ l, isHx c = true) → 0 ≤ rd 16 l n ∧ rd 16 l n < (n + 1) * 16 ^ l.length
  | [], n, h, _ => by simp [rd]; omega
  | c :: r, n, h, hc => by
    have h0 : 0 ≤ dig (c.toNat : Int) := by simpa [isHx] using hc c (by simp)
    have h1 := (dig_le (c.toNat : Int)).2
    have ih := rd_hx r (n * 16 + dig (c.toNat : Int)) (by omega) (fun x hx => hc x (by simp [hx]))
    rw [rd, if_neg (by omega)]
    refine ⟨ih.1, Int.lt_of_lt_of_le ih.2 ?_⟩
    have hp : (0 : Int) ≤ 16 ^ r.length := Int.pow_nonneg (by omega)
    calc (n * 16 + dig (c.toNat : Int) + 1) * 16 ^ r.length ≤ ((n + 1) * 16) * 16 ^ r.length := Int.mul_le_mul_of_nonneg_right (by omega) hp
      _ = (n + 1) * 16 ^ (c :: r).length := by rw [List.length_cons, Int.pow_succ, Int.mul_assoc, Int.mul_comm 16]

theorem digitsL_hx (l : List UInt8) : ∀ c ∈ digitsL l, isHx c = true := fun c hc => by
  unfold digitsL at hc
  generalize List.drop (dolAt l + 1) l = r at hc
  induction r with
  | nil => simp at hc
  | cons x r ih =>
    simp only [List.takeWhile] at hc
    split at hc
    · rename_i hx
      rcases List.mem_cons.1 hc with rfl | h
      · exact hx
      · exact ih h
    · simp at hc

/-- The number behind a text's dollar sign, where it has two digits or four. -/
def readNum (l : List UInt8) : Nat := if (digitsL l).length = 2 ∨ (digitsL l).length = 4 then hexN (digitsL l) else 0

theorem hexN_lt (l : List UInt8) (hl : l.length ≤ 4) (hc : ∀ c ∈ l, isHx c = true) : hexN l < 65536 ∧ rd 16 l 0 = (hexN l : Int) := by
  have h := rd_hx l 0 (by omega) hc
  have hp : (16 : Int) ^ l.length ≤ 65536 := by
    have : l.length = 0 ∨ l.length = 1 ∨ l.length = 2 ∨ l.length = 3 ∨ l.length = 4 := by omega
    rcases this with e | e | e | e | e <;> rw [e] <;> decide
  unfold hexN
  omega

theorem readNum_lt (l : List UInt8) : readNum l < 65536 := by
  unfold readNum
  split
  · exact (hexN_lt _ (by omega) (digitsL_hx l)).1
  · omega

/-- The byte behind the first one, by the number that is read. -/
def cand1 (N pc i : Nat) : Nat := if opMode i = 12 then (((N : Int) - pc - 2) % 256).toNat else N % 256

def readHit (s : ByteArray) (pc i : Nat) : Bool :=
  ((opName i).toList == (s.extract 0 3).toList) && ((showTx i (cand1 (readNum s.data.toList) pc i) (readNum s.data.toList / 256) pc).toList == s.toList)

def readFrom (s : ByteArray) (pc : Nat) : Nat → Nat → Option Nat
  | 0, _ => none
  | n + 1, i => if readHit s pc i then some i else readFrom s pc n (i + 1)

/-- The bytes of an operation whose text has number N. -/
def opBytes (N pc i : Nat) : List Nat := [i, cand1 N pc i, N / 256].take (opSize i).toNat

/-- What ReadOp is to tell: the bytes, where there are such. -/
def readOp (s : ByteArray) (pc : Nat) : Option (List Nat) :=
  if s.size < 3 ∨ 12 < s.size then none else (readFrom s pc 256 0).map (opBytes (readNum s.data.toList) pc)

theorem readFrom_hit {s : ByteArray} {pc j : Nat} (hj : j < 256) (h : readHit s pc j = true) : readFrom s pc (256 - j) j = some j := by
  obtain ⟨n, hn⟩ : ∃ n, 256 - j = n + 1 := ⟨255 - j, by omega⟩
  rw [hn, readFrom, if_pos h]

theorem readFrom_miss {s : ByteArray} {pc j : Nat} (hj : j < 256) (h : readHit s pc j = false) : readFrom s pc (256 - j) j = readFrom s pc (256 - (j + 1)) (j + 1) := by
  obtain ⟨n, hn⟩ : ∃ n, 256 - j = n + 1 := ⟨255 - j, by omega⟩
  have hn2 : 256 - (j + 1) = n := by omega
  rw [hn, hn2, readFrom, if_neg (by simp [h])]

theorem cand1_lt (N pc i : Nat) : cand1 N pc i < 256 := by unfold cand1; split <;> omega

theorem blkKept {w w1 : World} {B : Nat} {o : Obj} (hb : Below w.heap.size w w1) (h : w.heap[B]? = some o) : w1.heap[B]? = some o :=
  (hb.block B (Array.getElem?_eq_some_iff.1 h).1).trans h
theorem blkCell {w : World} {B i : Nat} {cs : Array Value} {t : TypeId} (h : w.heap[B]? = some (.cells cs t (0, 0))) : w.cell? ⟨B, i, none⟩ = cs[i]? := by simp [World.cell?, h]
theorem blkFree {w : World} {B i : Nat} {cs : Array Value} {t : TypeId} (h : w.heap[B]? = some (.cells cs t (0, 0))) : w.frozen? ⟨B, i, none⟩ = false := by simp [World.frozen?, h]
theorem blkSet {w : World} {B i : Nat} {cs : Array Value} {t : TypeId} {u : Value} (h : w.heap[B]? = some (.cells cs t (0, 0))) : (w.setCell ⟨B, i, none⟩ u).heap[B]? = some (.cells (cs.setIfInBounds i u) t (0, 0)) := by
  obtain ⟨hlt, hk⟩ := Array.getElem?_eq_some_iff.1 h
  show (w.heap.modify B _)[B]? = _
  rw [Array.getElem?_eq_getElem (by rw [Array.size_modify]; exact hlt), Array.getElem_modify_self, hk]
  rfl

/-- Three bytes in a block of their own, of which k are told. -/
theorem ownThree {w : World} {B base k x0 x1 x2 : Nat} (hb : base ≤ B) (hk : k ≤ 3) (h0 : x0 < 256) (h1 : x1 < 256) (h2 : x2 < 256) (h : w.heap[B]? = some (.cells #[.int .u8 x0, .int .u8 x1, .int .u8 x2] 5 (0, 0))) :
    OwnB w base (.slice (some ⟨B, 0, none⟩) k 3) ([x0, x1, x2].take k) := by
  have hk' : k = 0 ∨ k = 1 ∨ k = 2 ∨ k = 3 := by omega
  refine ⟨fun i hi => ?_, ?_, .inr ⟨B, 3, _, ?_, hb, h, ?_, by decide, rfl, ?_⟩⟩
  · have hm : ([x0, x1, x2].take k).getD i 0 ∈ [x0, x1, x2] := by
      rw [List.getD, List.getElem?_eq_getElem hi]
      exact List.mem_of_mem_take (List.getElem_mem hi)
    simp only [List.mem_cons, List.not_mem_nil, or_false] at hm
    rcases hm with e | e | e <;> rw [e] <;> assumption
  · simp
  · rw [show ([x0, x1, x2].take k).length = k by simp; omega]
  · simp; omega
  · rcases hk' with rfl | rfl | rfl | rfl <;> rfl

theorem three_of {w : World} {B k x0 x1 x2 : Nat} (h : w.heap[B]? = some (.cells #[.int .u8 x0, .int .u8 x1, .int .u8 x2] 5 (0, 0))) : Three w (some ⟨B, 0, none⟩) k x0 x1 x2 :=
  .inr ⟨B, 0, rfl, (Array.getElem?_eq_some_iff.1 h).1, blkCell h, fun _ => blkCell h, fun _ => blkCell h⟩

theorem showOp_full {k x0 x1 x2 pc : Nat} (hk : opSize x0 = (k : Int)) (h1 : 1 ≤ k) : showOp k x0 x1 x2 pc = showTx x0 x1 x2 pc := by
  rw [showOp, if_neg (by omega)]

theorem specName_at (b : Nat) (hb : b < 256) (x : Int) (hx : x = b) (w : World) :
    Calls Try.prog 21 #[.int .u8 x] w fun e w' => e = .returned (.string (opName b)) ∧ Below w.heap.size w w' := by
  subst hx; exact specName_any b hb w

theorem wrapByte {j : Nat} (hj : j < 256) : IntKind.u8.wrap (j : Int) = j := by rw [IntKind.wrap_u8']; omega

theorem opSize_pos {b : Nat} (hb : b < 256) (h : opId b ≠ 0) : 1 ≤ opSize b := by
  have := byte_all (p := fun b => opId b = 0 ∨ 1 ≤ opSize b) (by decide +kernel) hb
  exact this.resolve_left h

theorem opId_named {s : ByteArray} {j : Nat} (hj : j < 256) (h3 : 3 ≤ s.size) (hn : ((opName j).toList == (s.extract 0 3).toList) = true) : opId j ≠ 0 := by
  intro e
  have e1 := opName_empty hj
  rw [e, eq_of_beq hn, ByteArray.toList_eq] at e1
  have e3 : (s.extract 0 3).size = 3 := by rw [ByteArray.size_extract]; omega
  have e4 : (s.extract 0 3).data.toList.length = 3 := by rw [Array.length_toList]; exact e3
  have e5 : (s.extract 0 3).data.toList = [] := by simpa using e1
  rw [e5] at e4
  simp at e4

/-- The digits of a text, as the program reads them: two, four, or others. -/
def DigitsAre (D : List UInt8) (N : Nat) : Prop :=
  (((D.length : Int) == 2) = true ∧ rhex (strOf D) D.length = N) ∨ (((D.length : Int) == 2) = false ∧ ((D.length : Int) == 4) = true ∧ rhex (strOf D) D.length = N) ∨ (((D.length : Int) == 2) = false ∧ ((D.length : Int) == 4) = false ∧ N = 0)

theorem digitsAre (l : List UInt8) : DigitsAre (digitsL l) (readNum l) := by
  have key : ((digitsL l).length = 2 ∨ (digitsL l).length = 4) → rhex (strOf (digitsL l)) (digitsL l).length = (readNum l : Int) := fun h => by
    rw [rhex_yes _ _ ⟨by omega, by omega, by rw [strOf_size]⟩, readNum, if_pos h]
    exact (hexN_lt _ (by omega) (digitsL_hx l)).2
  by_cases h2 : (digitsL l).length = 2
  · exact .inl ⟨by rw [h2]; rfl, key (.inl h2)⟩
  by_cases h4 : (digitsL l).length = 4
  · exact .inr (.inl ⟨by rw [h4]; rfl, by rw [h4]; rfl, key (.inr h4)⟩)
  · exact .inr (.inr ⟨by simp; omega, by simp; omega, by rw [readNum, if_neg (by omega)]⟩)

set_option maxRecDepth 100000 in
set_option maxHeartbeats 1600000 in
theorem specRead_in (s : ByteArray) (pc N : Nat) (hN : N < 65536) (hR : Hid (readNum s.data.toList = N)) (h3 : 3 ≤ s.size) (h12 : s.size ≤ 12) (hp : pc < 65536) (w : World) :
    Calls Try.prog 20 #[.string s, .int .u16 pc] w fun e w' => ∃ v ok, e = .returned (.tuple #[v, .bool ok]) ∧ ok = (readFrom s pc 256 0).isSome ∧ OwnB w' w.heap.size v (((readFrom s pc 256 0).map (opBytes N pc)).getD []) ∧ Below w.heap.size w w' := by
  have hs : s.size ≤ maxLen := by unfold maxLen; omega
  have HIN := Lib.hid (show (decide (3 ≤ (s.size : Int)) && decide ((s.size : Int) ≤ 12)) = true by simp; omega)
  obtain ⟨D, hD⟩ : ∃ D, digitsL s.data.toList = D := ⟨_, rfl⟩
  have hda := digitsAre s.data.toList
  rw [hD, hR.out] at hda
  have HD := Lib.hid hD
  have hDs : (strOf D).size = D.length := strOf_size D
  have hDm : (strOf D).size ≤ maxLen := by
    rw [hDs, ← hD]
    have : (digitsL s.data.toList).length ≤ s.data.toList.length := by
      unfold digitsL
      exact Nat.le_trans (List.takeWhile_sublist _).length_le (by simp)
    have e : s.data.toList.length = s.size := Array.length_toList
    unfold maxLen; omega
  clear hD
  have s3 : ¬ (s.size : Int) < 3 := by omega
  obtain ⟨q, hq⟩ : ∃ q, N / 256 = q := ⟨_, rfl⟩
  obtain ⟨r, hr0⟩ : ∃ r, N % 256 = r := ⟨_, rfl⟩
  have hq2 : q < 256 := by omega
  have hr2 : r < 256 := by omega
  have HQN := Lib.hid hq
  have HRN := Lib.hid hr0
  obtain ⟨c, hcn⟩ : ∃ c, (((N : Int) - pc - 2) % 256).toNat = c := ⟨_, rfl⟩
  have hc2 : c < 256 := by omega
  have HCN := Lib.hid hcn
  have E3 := Lib.hid (show bits .and .i64 ((N : Int) - pc - 2) 255 % 256 = (c : Int) by rw [i64_and255]; omega)
  have E1 := Lib.hid (show bits .and .i64 (N : Int) 255 % 256 = (r : Int) by rw [i64_and255]; omega)
  have E2 := Lib.hid (show (N : Int) / 256 = (q : Int) by omega)
  clear hq hr0 hcn
  rcases hda with ⟨d2, hr⟩ | ⟨d2, d4, hr⟩ | ⟨d2, d4, hr⟩
  · have HRR := Lib.hid hr
    clear hr
    go_enter Try.func20, Try.ntmps20
    go_wp2_with fail
    refine (in_any _ _ _ _).mono ?_
    rintro e w' ⟨rfl, rfl⟩
    rw [HIN.out]
    go_wp2_with fail
    refine (l04Digits_any s _ hs).mono ?_
    rintro e w' ⟨rfl, rfl⟩
    rw [HD.out]
    go_wp2_with fail
    refine (specReadHex_any _ _ _ hDm).mono ?_
    rintro e w' ⟨rfl, rfl⟩
    rw [HRR.out]
    go_wp2_with fail
    go_loopw [8] (fun i wr => ∃ j : Nat, j ≤ 256 ∧ i = .int .i64 j ∧ Below w.heap.size w wr ∧ Hid (readFrom s pc (256 - j) j = readFrom s pc 256 0)) (fun i _ => 256 - (intOf i).toNat)
    case atStart => exact ⟨0, by omega, rfl, Below.refl _ _, Lib.hid rfl⟩
    case round =>
      obtain ⟨j, hj, rfl, hb, H⟩ := hrel
      have hsz := hb.size
      by_cases hp2 : j < 256
      · cases hn : ((opName j).toList == (s.extract 0 3).toList) with
        | false =>
          have HH := Lib.hid (readFrom_miss (s := s) (pc := pc) hp2 (by simp [readHit, hn]))
          go_wp2_with fail
          go_region_held3 (fun _ => True) (trivial) (first | (go_at_call 21; refine (specName_at j hp2 _ ?_ _).mono ?_; (exact wrapByte hp2); rintro e w1 ⟨rfl, hb1⟩))
          go_wp2
          go_roundw
          case rel => exact ⟨j + 1, by omega, by go_num, hb.drew.trans (hb1.mono (by simpa using hsz)), Lib.hid (by rw [← HH.out, H.out])⟩
          case measure => simp [intOf]; omega
        | true =>
          have hid := opId_named hp2 h3 hn
          obtain ⟨k, hk, hk1, hk3⟩ : ∃ k : Nat, opSize j = k ∧ 1 ≤ k ∧ k ≤ 3 := by
            obtain ⟨z0, z3⟩ := opSize_range hp2
            have := opSize_pos hp2 hid
            exact ⟨(opSize j).toNat, by omega, by omega, by omega⟩
          have HSZ := fun w => specSize_any j hp2 w
          rw [hk] at HSZ
          go_wp2_with fail
          go_region_held3 (fun _ => True) (trivial) (first | (go_at_call 21; refine (specName_at j hp2 _ ?_ _).mono ?_; (exact wrapByte hp2); rintro e w1 ⟨rfl, hb1⟩))
          have hb1' : Below w.heap.size w w1 := hb.drew.trans (hb1.mono (by simpa using hsz))
          go_wp2_with fail
          rw [E1.out, E2.out]
          refine (HSZ _).mono ?_
          rintro e w2 ⟨rfl, hb2⟩
          have HB2 := Lib.hid (blkKept hb2 (World.alloc_heap_new w1 _))
          have hB0 : w.heap.size ≤ w1.heap.size := hb1'.size
          have hb2' : Below w.heap.size w w2 := (hb1'.alloc hB0 _).trans (hb2.mono (by simp; omega))
          have hB1 : w1.heap.size < w2.heap.size := (Array.getElem?_eq_some_iff.1 HB2.out).1
          clear hb2 hb1 hb1' hb
          cases hm : (opMode j == 12) with
          | false =>
            have hc1 : cand1 N pc j = r := by rw [cand1, if_neg (by simpa using hm), HRN.out]
            have HSH := Lib.hid (showOp_full (x1 := r) (x2 := q) (pc := pc) hk hk1)
            cases hh : ((showTx j r q pc).toList == s.toList) with
            | false =>
              have HH := Lib.hid (readFrom_miss (s := s) (pc := pc) hp2 (by simp only [readHit, hR.out, hc1, HQN.out, hh, Bool.and_false]))
              clear hc1
              go_wp2_with fail
              refine (specMode_any j hp2 _).mono ?_
              rintro e w3 ⟨rfl, hb3⟩
              go_wp2_with fail
              refine (specShow_any _ k 3 j r q pc hp2 hr2 hq2 hp _ (three_of (blkKept hb3 HB2.out))).mono ?_
              rintro e w4 ⟨rfl, hb4⟩
              rw [HSH.out]
              go_wp2
              go_roundw
              case rel => exact ⟨j + 1, by omega, by go_num, (hb2'.trans (hb3.mono hb2'.size)).trans (hb4.mono (Nat.le_trans hb2'.size hb3.size)), Lib.hid (by rw [← HH.out, H.out])⟩
              case measure => simp [intOf]; omega
            | true =>
              have HH := Lib.hid (readFrom_hit (s := s) (pc := pc) hp2 (by simp only [readHit, hR.out, hc1, HQN.out, hh, hn, Bool.and_true]))
              have HO := Lib.hid (show opBytes N pc j = [j, r, q].take k by rw [opBytes, hc1, HQN.out, hk]; rfl)
              clear hc1
              go_wp2_with fail
              refine (specMode_any j hp2 _).mono ?_
              rintro e w3 ⟨rfl, hb3⟩
              go_wp2_with fail
              refine (specShow_any _ k 3 j r q pc hp2 hr2 hq2 hp _ (three_of (blkKept hb3 HB2.out))).mono ?_
              rintro e w4 ⟨rfl, hb4⟩
              rw [HSH.out]
              go_wp2
              go_ret2
              exact ⟨_, _, rfl, by rw [← H.out, HH.out]; rfl, by
                rw [← H.out, HH.out]
                show OwnB w4 w.heap.size _ (opBytes N pc j)
                rw [HO.out]
                exact ownThree hB0 hk3 hp2 hr2 hq2 (blkKept hb4 (blkKept hb3 HB2.out)), (hb2'.trans (hb3.mono hb2'.size)).trans (hb4.mono (Nat.le_trans hb2'.size hb3.size))⟩
          | true =>
            have hc1 : cand1 N pc j = c := by rw [cand1, if_pos (by simpa using hm), HCN.out]
            have HSH := Lib.hid (showOp_full (x1 := c) (x2 := q) (pc := pc) hk hk1)
            have hk2 : k = 2 := by
              obtain ⟨s1, s2, s3⟩ := sizes hp2
              have hm' : opMode j = 12 := by simpa using hm
              have : k = 1 ∨ k = 2 ∨ k = 3 := by omega
              rcases this with e | e | e
              · have := s1 (by omega); omega
              · exact e
              · have := s3 (by omega); omega
            have hi1 : (0 : Int) ≤ 1 ∧ (1 : Int) < (k : Int) := by omega
            clear hk2
            cases hh : ((showTx j c q pc).toList == s.toList) with
            | false =>
              have HH := Lib.hid (readFrom_miss (s := s) (pc := pc) hp2 (by simp only [readHit, hR.out, hc1, HQN.out, hh, Bool.and_false]))
              clear hc1
              go_wp2_with fail
              refine (specMode_any j hp2 _).mono ?_
              rintro e w3 ⟨rfl, hb3⟩
              have HB3 := Lib.hid (blkKept hb3 HB2.out)
              have cl : w3.cell? ⟨w1.heap.size, 1, none⟩ = some (.int .u8 r) := blkCell HB3.out
              have fr : w3.frozen? ⟨w1.heap.size, 1, none⟩ = false := blkFree HB3.out
              go_wp2_with fail
              rw [E3.out]
              refine (specShow_any _ k 3 j c q pc hp2 hc2 hq2 hp _ (three_of (blkSet HB3.out))).mono ?_
              rintro e w4 ⟨rfl, hb4⟩
              rw [HSH.out]
              have hb34 : Below w.heap.size w w4 := ((hb2'.trans (hb3.mono hb2'.size)).setCell hB0 _).trans (hb4.mono (by simpa using Nat.le_trans hb2'.size hb3.size))
              go_wp2
              go_roundw
              case rel => exact ⟨j + 1, by omega, by go_num, hb34, Lib.hid (by rw [← HH.out, H.out])⟩
              case measure => simp [intOf]; omega
            | true =>
              have HH := Lib.hid (readFrom_hit (s := s) (pc := pc) hp2 (by simp only [readHit, hR.out, hc1, HQN.out, hh, hn, Bool.and_true]))
              have HO := Lib.hid (show opBytes N pc j = [j, c, q].take k by rw [opBytes, hc1, HQN.out, hk]; rfl)
              clear hc1
              go_wp2_with fail
              refine (specMode_any j hp2 _).mono ?_
              rintro e w3 ⟨rfl, hb3⟩
              have HB3 := Lib.hid (blkKept hb3 HB2.out)
              have cl : w3.cell? ⟨w1.heap.size, 1, none⟩ = some (.int .u8 r) := blkCell HB3.out
              have fr : w3.frozen? ⟨w1.heap.size, 1, none⟩ = false := blkFree HB3.out
              go_wp2_with fail
              rw [E3.out]
              refine (specShow_any _ k 3 j c q pc hp2 hc2 hq2 hp _ (three_of (blkSet HB3.out))).mono ?_
              rintro e w4 ⟨rfl, hb4⟩
              rw [HSH.out]
              have hb34 : Below w.heap.size w w4 := ((hb2'.trans (hb3.mono hb2'.size)).setCell hB0 _).trans (hb4.mono (by simpa using Nat.le_trans hb2'.size hb3.size))
              go_wp2
              go_ret2
              exact ⟨_, _, rfl, by rw [← H.out, HH.out]; rfl, by
                rw [← H.out, HH.out]
                show OwnB w4 w.heap.size _ (opBytes N pc j)
                rw [HO.out]
                exact ownThree hB0 hk3 hp2 hc2 hq2 (blkKept hb4 (blkSet HB3.out)), hb34⟩
      · obtain rfl : j = 256 := by omega
        have HH := Lib.hid (show readFrom s pc 256 0 = none by rw [← H.out]; rfl)
        go_wp2
        go_ret2
        exact ⟨_, _, rfl, by rw [HH.out]; rfl, by rw [HH.out]; exact ⟨fun i hi => by simp at hi, World.ownsRow_made wr #[] 0 hsz (by decide) rfl⟩, hb.alloc hsz _⟩
  · have HRR := Lib.hid hr
    clear hr
    go_enter Try.func20, Try.ntmps20
    go_wp2_with fail
    refine (in_any _ _ _ _).mono ?_
    rintro e w' ⟨rfl, rfl⟩
    rw [HIN.out]
    go_wp2_with fail
    refine (l04Digits_any s _ hs).mono ?_
    rintro e w' ⟨rfl, rfl⟩
    rw [HD.out]
    go_wp2_with fail
    refine (specReadHex_any _ _ _ hDm).mono ?_
    rintro e w' ⟨rfl, rfl⟩
    rw [HRR.out]
    go_wp2_with fail
    go_loopw [8] (fun i wr => ∃ j : Nat, j ≤ 256 ∧ i = .int .i64 j ∧ Below w.heap.size w wr ∧ Hid (readFrom s pc (256 - j) j = readFrom s pc 256 0)) (fun i _ => 256 - (intOf i).toNat)
    case atStart => exact ⟨0, by omega, rfl, Below.refl _ _, Lib.hid rfl⟩
    case round =>
      obtain ⟨j, hj, rfl, hb, H⟩ := hrel
      have hsz := hb.size
      by_cases hp2 : j < 256
      · cases hn : ((opName j).toList == (s.extract 0 3).toList) with
        | false =>
          have HH := Lib.hid (readFrom_miss (s := s) (pc := pc) hp2 (by simp [readHit, hn]))
          go_wp2_with fail
          go_region_held3 (fun _ => True) (trivial) (first | (go_at_call 21; refine (specName_at j hp2 _ ?_ _).mono ?_; (exact wrapByte hp2); rintro e w1 ⟨rfl, hb1⟩))
          go_wp2
          go_roundw
          case rel => exact ⟨j + 1, by omega, by go_num, hb.drew.trans (hb1.mono (by simpa using hsz)), Lib.hid (by rw [← HH.out, H.out])⟩
          case measure => simp [intOf]; omega
        | true =>
          have hid := opId_named hp2 h3 hn
          obtain ⟨k, hk, hk1, hk3⟩ : ∃ k : Nat, opSize j = k ∧ 1 ≤ k ∧ k ≤ 3 := by
            obtain ⟨z0, z3⟩ := opSize_range hp2
            have := opSize_pos hp2 hid
            exact ⟨(opSize j).toNat, by omega, by omega, by omega⟩
          have HSZ := fun w => specSize_any j hp2 w
          rw [hk] at HSZ
          go_wp2_with fail
          go_region_held3 (fun _ => True) (trivial) (first | (go_at_call 21; refine (specName_at j hp2 _ ?_ _).mono ?_; (exact wrapByte hp2); rintro e w1 ⟨rfl, hb1⟩))
          have hb1' : Below w.heap.size w w1 := hb.drew.trans (hb1.mono (by simpa using hsz))
          go_wp2_with fail
          rw [E1.out, E2.out]
          refine (HSZ _).mono ?_
          rintro e w2 ⟨rfl, hb2⟩
          have HB2 := Lib.hid (blkKept hb2 (World.alloc_heap_new w1 _))
          have hB0 : w.heap.size ≤ w1.heap.size := hb1'.size
          have hb2' : Below w.heap.size w w2 := (hb1'.alloc hB0 _).trans (hb2.mono (by simp; omega))
          have hB1 : w1.heap.size < w2.heap.size := (Array.getElem?_eq_some_iff.1 HB2.out).1
          clear hb2 hb1 hb1' hb
          cases hm : (opMode j == 12) with
          | false =>
            have hc1 : cand1 N pc j = r := by rw [cand1, if_neg (by simpa using hm), HRN.out]
            have HSH := Lib.hid (showOp_full (x1 := r) (x2 := q) (pc := pc) hk hk1)
            cases hh : ((showTx j r q pc).toList == s.toList) with
            | false =>
              have HH := Lib.hid (readFrom_miss (s := s) (pc := pc) hp2 (by simp only [readHit, hR.out, hc1, HQN.out, hh, Bool.and_false]))
              clear hc1
              go_wp2_with fail
              refine (specMode_any j hp2 _).mono ?_
              rintro e w3 ⟨rfl, hb3⟩
              go_wp2_with fail
              refine (specShow_any _ k 3 j r q pc hp2 hr2 hq2 hp _ (three_of (blkKept hb3 HB2.out))).mono ?_
              rintro e w4 ⟨rfl, hb4⟩
              rw [HSH.out]
              go_wp2
              go_roundw
              case rel => exact ⟨j + 1, by omega, by go_num, (hb2'.trans (hb3.mono hb2'.size)).trans (hb4.mono (Nat.le_trans hb2'.size hb3.size)), Lib.hid (by rw [← HH.out, H.out])⟩
              case measure => simp [intOf]; omega
            | true =>
              have HH := Lib.hid (readFrom_hit (s := s) (pc := pc) hp2 (by simp only [readHit, hR.out, hc1, HQN.out, hh, hn, Bool.and_true]))
              have HO := Lib.hid (show opBytes N pc j = [j, r, q].take k by rw [opBytes, hc1, HQN.out, hk]; rfl)
              clear hc1
              go_wp2_with fail
              refine (specMode_any j hp2 _).mono ?_
              rintro e w3 ⟨rfl, hb3⟩
              go_wp2_with fail
              refine (specShow_any _ k 3 j r q pc hp2 hr2 hq2 hp _ (three_of (blkKept hb3 HB2.out))).mono ?_
              rintro e w4 ⟨rfl, hb4⟩
              rw [HSH.out]
              go_wp2
              go_ret2
              exact ⟨_, _, rfl, by rw [← H.out, HH.out]; rfl, by
                rw [← H.out, HH.out]
                show OwnB w4 w.heap.size _ (opBytes N pc j)
                rw [HO.out]
                exact ownThree hB0 hk3 hp2 hr2 hq2 (blkKept hb4 (blkKept hb3 HB2.out)), (hb2'.trans (hb3.mono hb2'.size)).trans (hb4.mono (Nat.le_trans hb2'.size hb3.size))⟩
          | true =>
            have hc1 : cand1 N pc j = c := by rw [cand1, if_pos (by simpa using hm), HCN.out]
            have HSH := Lib.hid (showOp_full (x1 := c) (x2 := q) (pc := pc) hk hk1)
            have hk2 : k = 2 := by
              obtain ⟨s1, s2, s3⟩ := sizes hp2
              have hm' : opMode j = 12 := by simpa using hm
              have : k = 1 ∨ k = 2 ∨ k = 3 := by omega
              rcases this with e | e | e
              · have := s1 (by omega); omega
              · exact e
              · have := s3 (by omega); omega
            have hi1 : (0 : Int) ≤ 1 ∧ (1 : Int) < (k : Int) := by omega
            clear hk2
            cases hh : ((showTx j c q pc).toList == s.toList) with
            | false =>
              have HH := Lib.hid (readFrom_miss (s := s) (pc := pc) hp2 (by simp only [readHit, hR.out, hc1, HQN.out, hh, Bool.and_false]))
              clear hc1
              go_wp2_with fail
              refine (specMode_any j hp2 _).mono ?_
              rintro e w3 ⟨rfl, hb3⟩
              have HB3 := Lib.hid (blkKept hb3 HB2.out)
              have cl : w3.cell? ⟨w1.heap.size, 1, none⟩ = some (.int .u8 r) := blkCell HB3.out
              have fr : w3.frozen? ⟨w1.heap.size, 1, none⟩ = false := blkFree HB3.out
              go_wp2_with fail
              rw [E3.out]
              refine (specShow_any _ k 3 j c q pc hp2 hc2 hq2 hp _ (three_of (blkSet HB3.out))).mono ?_
              rintro e w4 ⟨rfl, hb4⟩
              rw [HSH.out]
              have hb34 : Below w.heap.size w w4 := ((hb2'.trans (hb3.mono hb2'.size)).setCell hB0 _).trans (hb4.mono (by simpa using Nat.le_trans hb2'.size hb3.size))
              go_wp2
              go_roundw
              case rel => exact ⟨j + 1, by omega, by go_num, hb34, Lib.hid (by rw [← HH.out, H.out])⟩
              case measure => simp [intOf]; omega
            | true =>
              have HH := Lib.hid (readFrom_hit (s := s) (pc := pc) hp2 (by simp only [readHit, hR.out, hc1, HQN.out, hh, hn, Bool.and_true]))
              have HO := Lib.hid (show opBytes N pc j = [j, c, q].take k by rw [opBytes, hc1, HQN.out, hk]; rfl)
              clear hc1
              go_wp2_with fail
              refine (specMode_any j hp2 _).mono ?_
              rintro e w3 ⟨rfl, hb3⟩
              have HB3 := Lib.hid (blkKept hb3 HB2.out)
              have cl : w3.cell? ⟨w1.heap.size, 1, none⟩ = some (.int .u8 r) := blkCell HB3.out
              have fr : w3.frozen? ⟨w1.heap.size, 1, none⟩ = false := blkFree HB3.out
              go_wp2_with fail
              rw [E3.out]
              refine (specShow_any _ k 3 j c q pc hp2 hc2 hq2 hp _ (three_of (blkSet HB3.out))).mono ?_
              rintro e w4 ⟨rfl, hb4⟩
              rw [HSH.out]
              have hb34 : Below w.heap.size w w4 := ((hb2'.trans (hb3.mono hb2'.size)).setCell hB0 _).trans (hb4.mono (by simpa using Nat.le_trans hb2'.size hb3.size))
              go_wp2
              go_ret2
              exact ⟨_, _, rfl, by rw [← H.out, HH.out]; rfl, by
                rw [← H.out, HH.out]
                show OwnB w4 w.heap.size _ (opBytes N pc j)
                rw [HO.out]
                exact ownThree hB0 hk3 hp2 hc2 hq2 (blkKept hb4 (blkSet HB3.out)), hb34⟩
      · obtain rfl : j = 256 := by omega
        have HH := Lib.hid (show readFrom s pc 256 0 = none by rw [← H.out]; rfl)
        go_wp2
        go_ret2
        exact ⟨_, _, rfl, by rw [HH.out]; rfl, by rw [HH.out]; exact ⟨fun i hi => by simp at hi, World.ownsRow_made wr #[] 0 hsz (by decide) rfl⟩, hb.alloc hsz _⟩
  · have ZR := Lib.hid (show r = 0 by have := HRN.out; omega)
    have ZQ := Lib.hid (show q = 0 by have := HQN.out; omega)
    have E3' := Lib.hid (show bits .and .i64 (-(pc : Int) - 2) 255 % 256 = (c : Int) by
      have := E3.out
      rw [hr] at this
      simpa using this)
    have E0 := Lib.hid (show bits .and .i64 0 255 % 256 = 0 by rw [i64_and255]; rfl)
    clear hr
    go_enter Try.func20, Try.ntmps20
    go_wp2_with fail
    refine (in_any _ _ _ _).mono ?_
    rintro e w' ⟨rfl, rfl⟩
    rw [HIN.out]
    go_wp2_with fail
    refine (l04Digits_any s _ hs).mono ?_
    rintro e w' ⟨rfl, rfl⟩
    rw [HD.out]
    go_wp2_with fail
    go_loopw [8] (fun i wr => ∃ j : Nat, j ≤ 256 ∧ i = .int .i64 j ∧ Below w.heap.size w wr ∧ Hid (readFrom s pc (256 - j) j = readFrom s pc 256 0)) (fun i _ => 256 - (intOf i).toNat)
    case atStart => exact ⟨0, by omega, rfl, Below.refl _ _, Lib.hid rfl⟩
    case round =>
      obtain ⟨j, hj, rfl, hb, H⟩ := hrel
      have hsz := hb.size
      by_cases hp2 : j < 256
      · cases hn : ((opName j).toList == (s.extract 0 3).toList) with
        | false =>
          have HH := Lib.hid (readFrom_miss (s := s) (pc := pc) hp2 (by simp [readHit, hn]))
          go_wp2_with fail
          go_region_held3 (fun _ => True) (trivial) (first | (go_at_call 21; refine (specName_at j hp2 _ ?_ _).mono ?_; (exact wrapByte hp2); rintro e w1 ⟨rfl, hb1⟩))
          go_wp2
          go_roundw
          case rel => exact ⟨j + 1, by omega, by go_num, hb.drew.trans (hb1.mono (by simpa using hsz)), Lib.hid (by rw [← HH.out, H.out])⟩
          case measure => simp [intOf]; omega
        | true =>
          have hid := opId_named hp2 h3 hn
          obtain ⟨k, hk, hk1, hk3⟩ : ∃ k : Nat, opSize j = k ∧ 1 ≤ k ∧ k ≤ 3 := by
            obtain ⟨z0, z3⟩ := opSize_range hp2
            have := opSize_pos hp2 hid
            exact ⟨(opSize j).toNat, by omega, by omega, by omega⟩
          have HSZ := fun w => specSize_any j hp2 w
          rw [hk] at HSZ
          go_wp2_with fail
          go_region_held3 (fun _ => True) (trivial) (first | (go_at_call 21; refine (specName_at j hp2 _ ?_ _).mono ?_; (exact wrapByte hp2); rintro e w1 ⟨rfl, hb1⟩))
          have hb1' : Below w.heap.size w w1 := hb.drew.trans (hb1.mono (by simpa using hsz))
          go_wp2_with fail
          rw [E0.out]
          refine (HSZ _).mono ?_
          rintro e w2 ⟨rfl, hb2⟩
          have HB2 := Lib.hid (show w2.heap[w1.heap.size]? = some (.cells #[.int .u8 j, .int .u8 r, .int .u8 q] 5 (0, 0)) by rw [ZR.out, ZQ.out]; exact blkKept hb2 (World.alloc_heap_new w1 _))
          have hB0 : w.heap.size ≤ w1.heap.size := hb1'.size
          have hb2' : Below w.heap.size w w2 := (hb1'.alloc hB0 _).trans (hb2.mono (by simp; omega))
          have hB1 : w1.heap.size < w2.heap.size := (Array.getElem?_eq_some_iff.1 HB2.out).1
          clear hb2 hb1 hb1' hb
          cases hm : (opMode j == 12) with
          | false =>
            have hc1 : cand1 N pc j = r := by rw [cand1, if_neg (by simpa using hm), HRN.out]
            have HSH := Lib.hid (showOp_full (x1 := r) (x2 := q) (pc := pc) hk hk1)
            cases hh : ((showTx j r q pc).toList == s.toList) with
            | false =>
              have HH := Lib.hid (readFrom_miss (s := s) (pc := pc) hp2 (by simp only [readHit, hR.out, hc1, HQN.out, hh, Bool.and_false]))
              clear hc1
              go_wp2_with fail
              refine (specMode_any j hp2 _).mono ?_
              rintro e w3 ⟨rfl, hb3⟩
              go_wp2_with fail
              refine (specShow_any _ k 3 j r q pc hp2 hr2 hq2 hp _ (three_of (blkKept hb3 HB2.out))).mono ?_
              rintro e w4 ⟨rfl, hb4⟩
              rw [HSH.out]
              go_wp2
              go_roundw
              case rel => exact ⟨j + 1, by omega, by go_num, (hb2'.trans (hb3.mono hb2'.size)).trans (hb4.mono (Nat.le_trans hb2'.size hb3.size)), Lib.hid (by rw [← HH.out, H.out])⟩
              case measure => simp [intOf]; omega
            | true =>
              have HH := Lib.hid (readFrom_hit (s := s) (pc := pc) hp2 (by simp only [readHit, hR.out, hc1, HQN.out, hh, hn, Bool.and_true]))
              have HO := Lib.hid (show opBytes N pc j = [j, r, q].take k by rw [opBytes, hc1, HQN.out, hk]; rfl)
              clear hc1
              go_wp2_with fail
              refine (specMode_any j hp2 _).mono ?_
              rintro e w3 ⟨rfl, hb3⟩
              go_wp2_with fail
              refine (specShow_any _ k 3 j r q pc hp2 hr2 hq2 hp _ (three_of (blkKept hb3 HB2.out))).mono ?_
              rintro e w4 ⟨rfl, hb4⟩
              rw [HSH.out]
              go_wp2
              go_ret2
              exact ⟨_, _, rfl, by rw [← H.out, HH.out]; rfl, by
                rw [← H.out, HH.out]
                show OwnB w4 w.heap.size _ (opBytes N pc j)
                rw [HO.out]
                exact ownThree hB0 hk3 hp2 hr2 hq2 (blkKept hb4 (blkKept hb3 HB2.out)), (hb2'.trans (hb3.mono hb2'.size)).trans (hb4.mono (Nat.le_trans hb2'.size hb3.size))⟩
          | true =>
            have hc1 : cand1 N pc j = c := by rw [cand1, if_pos (by simpa using hm), HCN.out]
            have HSH := Lib.hid (showOp_full (x1 := c) (x2 := q) (pc := pc) hk hk1)
            have hk2 : k = 2 := by
              obtain ⟨s1, s2, s3⟩ := sizes hp2
              have hm' : opMode j = 12 := by simpa using hm
              have : k = 1 ∨ k = 2 ∨ k = 3 := by omega
              rcases this with e | e | e
              · have := s1 (by omega); omega
              · exact e
              · have := s3 (by omega); omega
            have hi1 : (0 : Int) ≤ 1 ∧ (1 : Int) < (k : Int) := by omega
            clear hk2
            cases hh : ((showTx j c q pc).toList == s.toList) with
            | false =>
              have HH := Lib.hid (readFrom_miss (s := s) (pc := pc) hp2 (by simp only [readHit, hR.out, hc1, HQN.out, hh, Bool.and_false]))
              clear hc1
              go_wp2_with fail
              refine (specMode_any j hp2 _).mono ?_
              rintro e w3 ⟨rfl, hb3⟩
              have HB3 := Lib.hid (blkKept hb3 HB2.out)
              have cl : w3.cell? ⟨w1.heap.size, 1, none⟩ = some (.int .u8 r) := blkCell HB3.out
              have fr : w3.frozen? ⟨w1.heap.size, 1, none⟩ = false := blkFree HB3.out
              go_wp2_with fail
              rw [E3'.out]
              refine (specShow_any _ k 3 j c q pc hp2 hc2 hq2 hp _ (three_of (blkSet HB3.out))).mono ?_
              rintro e w4 ⟨rfl, hb4⟩
              rw [HSH.out]
              have hb34 : Below w.heap.size w w4 := ((hb2'.trans (hb3.mono hb2'.size)).setCell hB0 _).trans (hb4.mono (by simpa using Nat.le_trans hb2'.size hb3.size))
              go_wp2
              go_roundw
              case rel => exact ⟨j + 1, by omega, by go_num, hb34, Lib.hid (by rw [← HH.out, H.out])⟩
              case measure => simp [intOf]; omega
            | true =>
              have HH := Lib.hid (readFrom_hit (s := s) (pc := pc) hp2 (by simp only [readHit, hR.out, hc1, HQN.out, hh, hn, Bool.and_true]))
              have HO := Lib.hid (show opBytes N pc j = [j, c, q].take k by rw [opBytes, hc1, HQN.out, hk]; rfl)
              clear hc1
              go_wp2_with fail
              refine (specMode_any j hp2 _).mono ?_
              rintro e w3 ⟨rfl, hb3⟩
              have HB3 := Lib.hid (blkKept hb3 HB2.out)
              have cl : w3.cell? ⟨w1.heap.size, 1, none⟩ = some (.int .u8 r) := blkCell HB3.out
              have fr : w3.frozen? ⟨w1.heap.size, 1, none⟩ = false := blkFree HB3.out
              go_wp2_with fail
              rw [E3'.out]
              refine (specShow_any _ k 3 j c q pc hp2 hc2 hq2 hp _ (three_of (blkSet HB3.out))).mono ?_
              rintro e w4 ⟨rfl, hb4⟩
              rw [HSH.out]
              have hb34 : Below w.heap.size w w4 := ((hb2'.trans (hb3.mono hb2'.size)).setCell hB0 _).trans (hb4.mono (by simpa using Nat.le_trans hb2'.size hb3.size))
              go_wp2
              go_ret2
              exact ⟨_, _, rfl, by rw [← H.out, HH.out]; rfl, by
                rw [← H.out, HH.out]
                show OwnB w4 w.heap.size _ (opBytes N pc j)
                rw [HO.out]
                exact ownThree hB0 hk3 hp2 hc2 hq2 (blkKept hb4 (blkSet HB3.out)), hb34⟩
      · obtain rfl : j = 256 := by omega
        have HH := Lib.hid (show readFrom s pc 256 0 = none by rw [← H.out]; rfl)
        go_wp2
        go_ret2
        exact ⟨_, _, rfl, by rw [HH.out]; rfl, by rw [HH.out]; exact ⟨fun i hi => by simp at hi, World.ownsRow_made wr #[] 0 hsz (by decide) rfl⟩, hb.alloc hsz _⟩

theorem specRead_any (s : ByteArray) (pc : Nat) (hp : pc < 65536) (w : World) (hs : s.size ≤ 1048576) :
    Calls Try.prog 20 #[.string s, .int .u16 pc] w fun e w' => ∃ v, e = .returned (.tuple #[v, .bool (readOp s pc).isSome]) ∧ OwnB w' w.heap.size v ((readOp s pc).getD []) ∧ Below w.heap.size w w' := by
  by_cases h : s.size < 3 ∨ 12 < s.size
  · have hr : readOp s pc = none := if_pos h
    rw [hr]
    have HIN := Lib.hid (show (decide (3 ≤ (s.size : Int)) && decide ((s.size : Int) ≤ 12)) = false by simp; omega)
    clear h hr
    go_enter Try.func20, Try.ntmps20
    go_wp2_with fail
    refine (in_any _ _ _ _).mono ?_
    rintro e w' ⟨rfl, rfl⟩
    rw [HIN.out]
    go_wp2
    go_ret2
    exact ⟨_, rfl, ⟨fun i hi => by simp at hi, World.ownsRow_made w #[] 0 (Nat.le_refl _) (by decide) rfl⟩, (Below.refl _ _).alloc (Nat.le_refl _) _⟩
  · have hr : readOp s pc = (readFrom s pc 256 0).map (opBytes (readNum s.data.toList) pc) := if_neg h
    rw [hr]
    refine (specRead_in s pc _ (readNum_lt _) (Lib.hid rfl) (by omega) (by omega) hp w).mono ?_
    rintro e w' ⟨v, ok, rfl, rfl, ho, hb⟩
    exact ⟨v, by simp, ho, hb⟩

end Go.Proofs.Ytffhjoldiicgdaa
