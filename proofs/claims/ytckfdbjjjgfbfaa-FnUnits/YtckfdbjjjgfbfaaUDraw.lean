/-
  Contracts over the program: the cursor over a code, by which the laws draw: it tells numbers that hang on the code alone.
-/
import Derived.Test.YtckfdbjjjgfbfaaRows
import Derived.WalkKit
import Derived.WalkSpells
import Derived.WalkLawsBesides
import Derived.OwnWalk
import Derived.Lib.Hide
import Derived.Below
import Derived.WalkSmall
import Derived.Laws.BitsAllLaws
import Derived.Laws.BitsLemmas
import Derived.Laws.Pointers
import Derived.Deep.QuietTactic
import Derived.BigQuiet
import Derived.Deep.Draws
import Derived.RangeFuncBox
namespace Go.Proofs.Ytckfdbjjjgfbfaa
set_option linter.unusedVariables false
set_option linter.unusedSimpArgs false
open Go.RowKit

/-- A code that lies below n₀: a row of len bytes. -/
def CodeRow (n₀ : Nat) (w : World) (a : Option Addr) (len : Nat) (z : List Int) : Prop :=
  len ≤ 1048576 ∧ (0 < len → ∃ b off, a = some ⟨b, off, none⟩ ∧ b < n₀ ∧ ∀ i, i < len → w.cell? ⟨b, off + i, none⟩ = some (.int .u8 (z[i]?.getD 0)) ∧ 0 ≤ z[i]?.getD 0 ∧ z[i]?.getD 0 ≤ 255)

theorem CodeRow.kept {n₀ : Nat} {w w' : World} {a : Option Addr} {len : Nat} {z : List Int} (h : CodeRow n₀ w a len z) (hb : Below n₀ w w') : CodeRow n₀ w' a len z := by
  refine ⟨h.1, fun h0 => ?_⟩
  obtain ⟨b, off, h1, h2, h3⟩ := h.2 h0
  exact ⟨b, off, h1, h2, fun i hi => ⟨(hb.cell (p := ⟨b, off + i, none⟩) h2).trans (h3 i hi).1, (h3 i hi).2⟩⟩

/-- The cursor's block. -/
def Cur (w : World) (B : Nat) (a : Option Addr) (len cap i : Nat) (h : Int) : Prop := w.heap[B]? = some (.cells #[.slice a len cap, .int .i64 i, .int .i64 h] 85 (0, 0))

theorem and_bound (x m : Int) (h0 : 0 ≤ m) (h1 : m < 9223372036854775808) : 0 ≤ bits .and .i64 x m ∧ bits .and .i64 x m ≤ m := by
  obtain ⟨k, rfl⟩ := Int.eq_ofNat_of_zero_le h0
  have hk : k < 2 ^ 63 := by omega
  have hle : (BitVec.ofInt 64 x &&& BitVec.ofInt 64 (k : Int)).toNat ≤ k := by
    rw [BitVec.toNat_and, BitVec.ofInt_natCast, BitVec.toNat_ofNat, Nat.mod_eq_of_lt (by omega)]
    exact Nat.and_le_right
  show 0 ≤ IntKind.i64.wrap ((BitVec.ofInt 64 x &&& BitVec.ofInt 64 (k : Int)).toNat : Int) ∧ IntKind.i64.wrap ((BitVec.ofInt 64 x &&& BitVec.ofInt 64 (k : Int)).toNat : Int) ≤ _
  rw [IntKind.wrap_i64]
  generalize (BitVec.ofInt 64 x &&& BitVec.ofInt 64 (k : Int)).toNat = y at *
  omega

/-- The number that a code is mixed into at first. -/
def hseq (z : List Int) (len : Nat) : Nat → Int
  | 0 => 693693 + len
  | j + 1 => bits .and .i64 (hseq z len j * 131 + z[j]?.getD 0 + 7) 1073741823

theorem hseq_bound (z : List Int) (len : Nat) (hl : len ≤ 1048576) (j : Nat) : 0 ≤ hseq z len j ∧ hseq z len j ≤ 1073741823 := by
  cases j with
  | zero => simp only [hseq]; omega
  | succ j => exact and_bound _ _ (by omega) (by omega)

def startH (z : List Int) (len : Nat) : Int := hseq z len (min len 4000)

set_option maxRecDepth 100000 in
theorem new_any (n₀ : Nat) (a : Option Addr) (len cap : Nat) (z : List Int) (w : World) (hc : CodeRow n₀ w a len z) :
    Calls Try.prog 19 #[.slice a len cap] w fun e w' => e = .returned (.pointer (some ⟨w.heap.size, 0, none⟩)) ∧ w.alloc (.cells #[.slice a len cap, .int .i64 0, .int .i64 (startH z len)] 85) = w' := by
  obtain ⟨hl, hr⟩ := hc
  have HR := Lib.hid hr
  clear hr
  go_enter Try.func19, Try.ntmps19
  go_wp2
  go_loop [3, 4] (fun h i => ∃ j : Nat, j ≤ min len 4000 ∧ i = .int .i64 j ∧ h = .int .i64 (hseq z len j)) (fun _ i => min len 4000 - (intOf i).toNat)
  case atStart => exact ⟨0, Nat.zero_le _, rfl, rfl⟩
  case round =>
    obtain ⟨j, hj, rfl, rfl⟩ := hrel
    obtain ⟨hb0, hb1⟩ := hseq_bound z len hl j
    by_cases hp : j < min len 4000
    · have hp1 : j < len := by omega
      have hp2 : j < 4000 := by omega
      obtain ⟨b, off, rfl, hbn, hcell⟩ := HR.out (by omega)
      obtain ⟨e1, e2, e3⟩ := hcell j hp1
      clear hcell
      go_wp2
      go_round
      case rel => exact ⟨j + 1, by omega, by go_num, rfl⟩
      case measure => simp [intOf]; omega
    · by_cases hp1 : j < len
      · have hp2 : 4000 ≤ j := by omega
        have HE := Lib.hid (show startH z len = hseq z len j by unfold startH; congr 1; omega)
        go_wp2
        go_ret
        exact ⟨rfl, by rw [HE.out]⟩
      · have HE := Lib.hid (show startH z len = hseq z len j by unfold startH; congr 1; omega)
        go_wp2
        go_ret
        exact ⟨rfl, by rw [HE.out]⟩

/-- One byte more: the number behind it. -/
def nextH (h : Int) : Int := wrap64 (wrap64 (h * 6364136223846793005) + 1442695040888963407)

def mixX (h1 : Int) : Int := bits BinOp.and IntKind.i64 (bits BinOp.xor IntKind.i64 (h1 / 8589934592) (h1 / 35184372088832)) 255
/-- The byte that comes next. -/
def byteX (z : List Int) (len i : Nat) (h : Int) : Int := if i < len then bits .and .i64 (mixX (nextH h) + z[i]?.getD 0) 255 else mixX (nextH h)
/-- The place behind it. -/
def byteI (len i : Nat) : Nat := if i < len then i + 1 else i

theorem byteX_bound (z : List Int) (len i : Nat) (h : Int) : 0 ≤ byteX z len i h ∧ byteX z len i h ≤ 255 := by
  unfold byteX mixX; split <;> exact and_bound _ _ (by omega) (by omega)
theorem byteI_le (len i : Nat) (h : i ≤ len) : byteI len i ≤ len := by unfold byteI; split <;> omega

theorem ret_intD {k : IntKind} {a b : Int} (h : b = a) : Ending.returned (.int k a) = .returned (.int k b) := by rw [h]

theorem setCell_at {w : World} {B k : Nat} {cur : Array Value} {e : TypeId} {u : Value} (h : w.heap[B]? = some (.cells cur e (0, 0))) : (w.setCell ⟨B, k, none⟩ u).heap[B]? = some (.cells (cur.setIfInBounds k u) e (0, 0)) := by
  obtain ⟨hlt, hk⟩ := Array.getElem?_eq_some_iff.1 h
  show (w.heap.modify B _)[B]? = _
  rw [Array.getElem?_eq_getElem (by rw [Array.size_modify]; exact hlt), Array.getElem_modify_self, hk]
  rfl

set_option maxRecDepth 100000 in
set_option maxHeartbeats 800000 in
theorem byte_any (n₀ B : Nat) (a : Option Addr) (len cap i : Nat) (z : List Int) (h : Int) (w : World) (hB : n₀ ≤ B) (hc : CodeRow n₀ w a len z) (hcur : Cur w B a len cap i h) :
    Calls Try.prog 55 #[.pointer (some ⟨B, 0, none⟩)] w fun e w' => e = .returned (.int .i64 (byteX z len i h)) ∧ Cur w' B a len cap (byteI len i) (nextH h) ∧ w.grownBy w' (some B) := by
  obtain ⟨hl, hr⟩ := hc
  have HR := Lib.hid hr
  clear hr
  have hlt := (Array.getElem?_eq_some_iff.1 hcur).1
  have c0 : w.cell? ⟨B, 0, none⟩ = some (.slice a len cap) := by simp [World.cell?, show w.heap[B]? = _ from hcur]
  have c1 : w.cell? ⟨B, 1, none⟩ = some (.int .i64 i) := by simp [World.cell?, show w.heap[B]? = _ from hcur]
  have c2 : w.cell? ⟨B, 2, none⟩ = some (.int .i64 h) := by simp [World.cell?, show w.heap[B]? = _ from hcur]
  have f1 : w.frozen? ⟨B, 1, none⟩ = false := by simp [World.frozen?, show w.heap[B]? = _ from hcur]
  have f2 : w.frozen? ⟨B, 2, none⟩ = false := by simp [World.frozen?, show w.heap[B]? = _ from hcur]
  have HCUR := Lib.hid hcur
  clear hcur
  go_enter Try.func55, Try.ntmps55
  go_wp2
  generalize hh : wrap64 (wrap64 (h * 6364136223846793005) + 1442695040888963407) = h1
  obtain ⟨W1, hW1⟩ : ∃ W1, w.setCell ⟨B, 2, none⟩ (.int .i64 h1) = W1 := ⟨_, rfl⟩
  rw [hW1]
  have hcur1 : Cur W1 B a len cap i h1 := by
    rw [← hW1]; exact setCell_at HCUR.out
  have d0 : W1.cell? ⟨B, 0, none⟩ = some (.slice a len cap) := by simp [World.cell?, show W1.heap[B]? = _ from hcur1]
  have d1 : W1.cell? ⟨B, 1, none⟩ = some (.int .i64 i) := by simp [World.cell?, show W1.heap[B]? = _ from hcur1]
  have d2 : W1.cell? ⟨B, 2, none⟩ = some (.int .i64 h1) := by simp [World.cell?, show W1.heap[B]? = _ from hcur1]
  have g1 : W1.frozen? ⟨B, 1, none⟩ = false := by simp [World.frozen?, show W1.heap[B]? = _ from hcur1]
  have HN := Lib.hid (show nextH h = h1 from hh)
  have HW1 := Lib.hid hW1
  have HCUR1 := Lib.hid hcur1
  clear hh hW1 hcur1 c0 c1 c2 f1 f2
  go_quiet (fail)
  generalize hx : bits BinOp.and IntKind.i64 (bits BinOp.xor IntKind.i64 (h1 / 8589934592) (h1 / 35184372088832)) 255 = xv
  have HX := Lib.hid hx
  have hxb := and_bound (bits BinOp.xor IntKind.i64 (h1 / 8589934592) (h1 / 35184372088832)) 255 (by omega) (by omega)
  rw [hx] at hxb
  obtain ⟨hx0, hx1⟩ := hxb
  clear hx
  have hgrown : w.grownBy W1 (some B) := by
    rw [← HW1.out]
    exact ⟨rfl, rfl, rfl, by simp [World.setCell], fun j _ hne => Below.heap_setCell w _ _ j (fun e => hne (by rw [e]))⟩
  by_cases hp : i < len
  · obtain ⟨b, off, rfl, hbn, hcell⟩ := HR.out (by omega)
    obtain ⟨e1, e2, e3⟩ := hcell i hp
    have e1' : W1.cell? ⟨b, off + i, none⟩ = some (.int .u8 (z[i]?.getD 0)) := by
      rw [← HW1.out, World.cell?_of_block (Below.heap_setCell w _ _ b (by simp; omega))]; exact e1
    clear hcell e1
    go_wp2
    go_quiet (fail)
    go_wp2
    go_quiet (fail)
    go_wp2
    go_ret
    refine ⟨ret_intD ?_, ?_, ?_⟩
    · unfold byteX mixX; rw [if_pos hp, HN.out, HX.out]
    · have e : byteI len i = i + 1 := if_pos hp
      rw [e, HN.out]
      exact setCell_at (k := 1) (u := .int .i64 ((i : Int) + 1)) HCUR1.out
    · exact ⟨hgrown.os, hgrown.tape, hgrown.output, by have := hgrown.size; simpa [World.setCell] using this, fun j hj hne => (Below.heap_setCell W1 ⟨B, 1, none⟩ (.int .i64 ((i : Int) + 1)) j (fun e => hne (by rw [e]))).trans (hgrown.block j hj hne)⟩
  · go_wp2
    go_quiet (fail)
    go_wp2
    go_ret
    refine ⟨ret_intD ?_, ?_, ?_⟩
    · unfold byteX mixX; rw [if_neg hp, HN.out, HX.out]
    · have e : byteI len i = i := if_neg hp
      rw [e, HN.out]
      exact HCUR1.out
    · exact ⟨hgrown.os, hgrown.tape, hgrown.output, hgrown.size, hgrown.block⟩

/-- A cursor at a state: its place, and the number that is mixed. -/
def Drawn (n₀ B : Nat) (a : Option Addr) (len cap : Nat) (z : List Int) (s : Nat × Int) (w : World) : Prop := CodeRow n₀ w a len z ∧ Cur w B a len cap s.1 s.2 ∧ n₀ ≤ B

def nextS (len : Nat) (s : Nat × Int) : Nat × Int := (byteI len s.1, nextH s.2)
def byteV (z : List Int) (len : Nat) (s : Nat × Int) : Int := byteX z len s.1 s.2

theorem Drawn.lt {n₀ B : Nat} {a : Option Addr} {len cap : Nat} {z : List Int} {s : Nat × Int} {w : World} (h : Drawn n₀ B a len cap z s w) : B < w.heap.size := (Array.getElem?_eq_some_iff.1 h.2.1).1

theorem grown_below {n₀ B : Nat} {w w' : World} (hg : w.grownBy w' (some B)) (h1 : n₀ ≤ B) (h2 : B < w.heap.size) : Below n₀ w w' :=
  (Below.refl n₀ w).grown hg (by omega) (fun k e => by cases e; exact h1)

theorem Drawn.below {n₀ B : Nat} {a : Option Addr} {len cap : Nat} {z : List Int} {s : Nat × Int} {w w' : World} (h : Drawn n₀ B a len cap z s w) (hb : Below w.heap.size w w') : Drawn n₀ B a len cap z s w' :=
  ⟨h.1.kept (hb.mono (by have := h.lt; have := h.2.2; omega)), (hb.block B h.lt).trans h.2.1, h.2.2⟩

theorem Drawn.alloc {n₀ B : Nat} {a : Option Addr} {len cap : Nat} {z : List Int} {s : Nat × Int} {w : World} (h : Drawn n₀ B a len cap z s w) (o : Obj) : Drawn n₀ B a len cap z s (w.alloc o) :=
  h.below ((Below.refl _ _).alloc (Nat.le_refl _) o)

theorem grown_trans {x y u : World} {row : Option Nat} (h : x.grownBy y row) (k : y.grownBy u row) : x.grownBy u row :=
  ⟨k.os.trans h.os, k.tape.trans h.tape, k.output.trans h.output, Nat.le_trans h.size k.size, fun i hi hn => (k.block i (Nat.lt_of_lt_of_le hi h.size) hn).trans (h.block i hi hn)⟩

theorem byte_drawn (n₀ B : Nat) (a : Option Addr) (len cap : Nat) (z : List Int) (s : Nat × Int) (w : World) (h : Drawn n₀ B a len cap z s w) :
    Calls Try.prog 55 #[.pointer (some ⟨B, 0, none⟩)] w fun e w' => e = .returned (.int .i64 (byteV z len s)) ∧ Drawn n₀ B a len cap z (nextS len s) w' ∧ w.grownBy w' (some B) :=
  (byte_any n₀ B a len cap s.1 z s.2 w h.2.2 h.1 h.2.1).mono fun _ _ ⟨he, hc, hg⟩ => ⟨he, ⟨h.1.kept (grown_below hg h.2.2 h.lt), hc, h.2.2⟩, hg⟩

/-- A number below n, and the state behind it. -/
def belowV (z : List Int) (len : Nat) (s : Nat × Int) (n : Int) : Int :=
  if n ≤ 0 then 0 else if n ≤ 256 then byteV z len s % n
  else (byteV z len s * 16777216 + byteV z len (nextS len s) * 65536 + byteV z len (nextS len (nextS len s)) * 256 + byteV z len (nextS len (nextS len (nextS len s)))) % n
def belowS (len : Nat) (s : Nat × Int) (n : Int) : Nat × Int :=
  if n ≤ 0 then s else if n ≤ 256 then nextS len s else nextS len (nextS len (nextS len (nextS len s)))

theorem belowV_bound (z : List Int) (len : Nat) (s : Nat × Int) (n : Int) (h : 0 < n) : 0 ≤ belowV z len s n ∧ belowV z len s n < n := by
  unfold belowV
  rw [if_neg (by omega)]
  split
  · exact ⟨Int.emod_nonneg _ (by omega), Int.emod_lt_of_pos _ h⟩
  · exact ⟨Int.emod_nonneg _ (by omega), Int.emod_lt_of_pos _ h⟩

set_option maxRecDepth 100000 in
theorem below_drawn (n₀ B : Nat) (a : Option Addr) (len cap : Nat) (z : List Int) (s : Nat × Int) (n : Int) (w : World) (h : Drawn n₀ B a len cap z s w) :
    Calls Try.prog 23 #[.pointer (some ⟨B, 0, none⟩), .int .i64 n] w fun e w' => e = .returned (.int .i64 (belowV z len s n)) ∧ Drawn n₀ B a len cap z (belowS len s n) w' ∧ w.grownBy w' (some B) := by
  by_cases h0 : n ≤ 0
  · have HV := Lib.hid (show belowV z len s n = 0 from if_pos h0)
    have HS := Lib.hid (show belowS len s n = s from if_pos h0)
    go_enter Try.func23, Try.ntmps23
    go_wp2
    go_ret
    exact ⟨ret_intD HV.out, by rw [HS.out]; exact h, World.grownBy.refl _ _⟩
  · by_cases h1 : n ≤ 256
    · have HV := Lib.hid (show belowV z len s n = byteV z len s % n by unfold belowV; rw [if_neg h0, if_pos h1])
      have HS := Lib.hid (show belowS len s n = nextS len s by unfold belowS; rw [if_neg h0, if_pos h1])
      obtain ⟨b0, b1⟩ := byteX_bound z len s.1 s.2
      have c0 : 0 ≤ byteV z len s := b0
      have c1 : byteV z len s ≤ 255 := b1
      have h2 : 0 < n := by omega
      have h3 : (n == 0) = false := by rw [beq_eq_false_iff_ne]; omega
      clear b0 b1 h0
      go_enter Try.func23, Try.ntmps23
      go_wp2_with fail
      refine (byte_drawn n₀ B a len cap z s _ h).mono ?_
      rintro e w1 ⟨rfl, hd1, hg1⟩
      go_wp2
      go_ret
      exact ⟨ret_intD HV.out, by rw [HS.out]; exact hd1, hg1⟩
    · have HV := Lib.hid (show belowV z len s n = (byteV z len s * 16777216 + byteV z len (nextS len s) * 65536 + byteV z len (nextS len (nextS len s)) * 256 + byteV z len (nextS len (nextS len (nextS len s)))) % n by unfold belowV; rw [if_neg h0, if_neg h1])
      have HS := Lib.hid (show belowS len s n = nextS len (nextS len (nextS len (nextS len s))) by unfold belowS; rw [if_neg h0, if_neg h1])
      have bb : ∀ t, 0 ≤ byteV z len t ∧ byteV z len t ≤ 255 := fun t => byteX_bound z len t.1 t.2
      obtain ⟨p0, p1⟩ := bb s
      obtain ⟨q0, q1⟩ := bb (nextS len s)
      obtain ⟨r0, r1⟩ := bb (nextS len (nextS len s))
      obtain ⟨t0, t1⟩ := bb (nextS len (nextS len (nextS len s)))
      have h2 : 0 < n := by omega
      have h3 : (n == 0) = false := by rw [beq_eq_false_iff_ne]; omega
      clear bb h0
      go_enter Try.func23, Try.ntmps23
      go_wp2_with fail
      refine (byte_drawn n₀ B a len cap z s _ h).mono ?_
      rintro e w1 ⟨rfl, hd1, hg1⟩
      go_wp2_with fail
      refine (byte_drawn n₀ B a len cap z _ _ hd1).mono ?_
      rintro e w2 ⟨rfl, hd2, hg2⟩
      go_wp2_with fail
      refine (byte_drawn n₀ B a len cap z _ _ hd2).mono ?_
      rintro e w3 ⟨rfl, hd3, hg3⟩
      go_wp2_with fail
      refine (byte_drawn n₀ B a len cap z _ _ hd3).mono ?_
      rintro e w4 ⟨rfl, hd4, hg4⟩
      go_wp2
      go_ret
      exact ⟨ret_intD HV.out, by rw [HS.out]; exact hd4, grown_trans (grown_trans (grown_trans hg1 hg2) hg3) hg4⟩

end Go.Proofs.Ytckfdbjjjgfbfaa
