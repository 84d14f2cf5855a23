/-
  Plain facts on cutting texts, without any Go: the parts of a text between gaps, its lines and its words; and which bytes a sign of a text takes.
-/
import Derived.Test.YtblchdmemhhcbaaGreatRows
import Derived.WalkKit
import Derived.WalkSpells
import Derived.WalkLawsBesides
import Derived.OwnWalk
import Derived.Lib.Hide
import Derived.Below
import Derived.WalkSmall
import Derived.Laws.BitsAllLaws
import Derived.Laws.BitsLemmas
import Derived.Laws.Pointers
import Derived.Deep.QuietTactic
import Derived.BigQuiet
import Derived.Deep.Draws
import Derived.RangeFuncBox
import Derived.Deep.RegionWith
import Derived.Test.YtblchdmemhhcbaaGreatQSSpan
import Derived.Test.YtblchdmemhhcbaaGreatQSOpC
import Derived.Test.YtblchdmemhhcbaaGreatQSAluNum
import Derived.Laws.Concat
import Derived.Laws.MakeOwn
import Derived.Laws.BytesArg
import Derived.Laws.RangeAny
import Derived.Deep.DeepMust
namespace Go.Proofs.YtblchdmemhhcbaaGreat
set_option linter.unusedVariables false
set_option linter.unusedSimpArgs false
open Go.RowKit

/-- A code that lies below n₀: a row of len bytes. -/
def CodeRow (n₀ : Nat) (w : World) (a : Option Addr) (len : Nat) (z : List Int) : Prop :=
  len ≤ 1048576 ∧ (0 < len → ∃ b off, a = some ⟨b, off, none⟩ ∧ b < n₀ ∧ ∀ i, i < len → w.cell? ⟨b, off + i, none⟩ = some (.int .u8 (z[i]?.getD 0)) ∧ 0 ≤ z[i]?.getD 0 ∧ z[i]?.getD 0 ≤ 255)

theorem CodeRow.kept {n₀ : Nat} {w w' : World} {a : Option Addr} {len : Nat} {z : List Int} (h : CodeRow n₀ w a len z) (hb : Below n₀ w w') : CodeRow n₀ w' a len z := by
  refine ⟨h.1, fun h0 => ?_⟩
  obtain ⟨b, off, h1, h2, h3⟩ := h.2 h0
  exact ⟨b, off, h1, h2, fun i hi => ⟨(hb.cell (p := ⟨b, off + i, none⟩) h2).trans (h3 i hi).1, (h3 i hi).2⟩⟩

/-- The cursor's block. -/
def Cur (w : World) (B : Nat) (a : Option Addr) (len cap i : Nat) (h : Int) : Prop := w.heap[B]? = some (.cells #[.slice a len cap, .int .i64 i, .int .i64 h] 95 (0, 0))

theorem and_bound (x m : Int) (h0 : 0 ≤ m) (h1 : m < 9223372036854775808) : 0 ≤ bits .and .i64 x m ∧ bits .and .i64 x m ≤ m := by
  obtain ⟨k, rfl⟩ := Int.eq_ofNat_of_zero_le h0
  have hk : k < 2 ^ 63 := by omega
  have hle : (BitVec.ofInt 64 x &&& BitVec.ofInt 64 (k : Int)).toNat ≤ k := by
    rw [BitVec.toNat_and, BitVec.ofInt_natCast, BitVec.toNat_ofNat, Nat.mod_eq_of_lt (by omega)]
    exact Nat.and_le_right
  show 0 ≤ IntKind.i64.wrap ((BitVec.ofInt 64 x &&& BitVec.ofInt 64 (k : Int)).toNat : Int) ∧ IntKind.i64.wrap ((BitVec.ofInt 64 x &&& BitVec.ofInt 64 (k : Int)).toNat : Int) ≤ _
  rw [IntKind.wrap_i64]
  generalize (BitVec.ofInt 64 x &&& BitVec.ofInt 64 (k : Int)).toNat = y at *
  omega

/-- The number that a code is mixed into at first. -/
def hseq (z : List Int) (len : Nat) : Nat → Int
  | 0 => 693693 + len
  | j + 1 => bits .and .i64 (hseq z len j * 131 + z[j]?.getD 0 + 7) 1073741823

theorem hseq_bound (z : List Int) (len : Nat) (hl : len ≤ 1048576) (j : Nat) : 0 ≤ hseq z len j ∧ hseq z len j ≤ 1073741823 := by
  cases j with
  | zero => simp only [hseq]; omega
  | succ j => exact and_bound _ _ (by omega) (by omega)

def startH (z : List Int) (len : Nat) : Int := hseq z len (min len 4000)

set_option maxRecDepth 100000 in
theorem new_any (n₀ : Nat) (a : Option Addr) (len cap : Nat) (z : List Int) (w : World) (hc : CodeRow n₀ w a len z) :
    Calls Tryz.prog 32 #[.slice a len cap] w fun e w' => e = .returned (.pointer (some ⟨w.heap.size, 0, none⟩)) ∧ w.alloc (.cells #[.slice a len cap, .int .i64 0, .int .i64 (startH z len)] 95) = w' := by
  obtain ⟨hl, hr⟩ := hc
  have HR := Lib.hid hr
  clear hr
  go_enter Tryz.func32, Tryz.ntmps32
  go_wp2
  go_loop [3, 4] (fun h i => ∃ j : Nat, j ≤ min len 4000 ∧ i = .int .i64 j ∧ h = .int .i64 (hseq z len j)) (fun _ i => min len 4000 - (intOf i).toNat)
  case atStart => exact ⟨0, Nat.zero_le _, rfl, rfl⟩
  case round =>
    obtain ⟨j, hj, rfl, rfl⟩ := hrel
    obtain ⟨hb0, hb1⟩ := hseq_bound z len hl j
    by_cases hp : j < min len 4000
    · have hp1 : j < len := by omega
      have hp2 : j < 4000 := by omega
      obtain ⟨b, off, rfl, hbn, hcell⟩ := HR.out (by omega)
      obtain ⟨e1, e2, e3⟩ := hcell j hp1
      clear hcell
      go_wp2
      go_round
      case rel => exact ⟨j + 1, by omega, by go_num, rfl⟩
      case measure => simp [intOf]; omega
    · by_cases hp1 : j < len
      · have hp2 : 4000 ≤ j := by omega
        have HE := Lib.hid (show startH z len = hseq z len j by unfold startH; congr 1; omega)
        go_wp2
        go_ret
        exact ⟨rfl, by rw [HE.out]⟩
      · have HE := Lib.hid (show startH z len = hseq z len j by unfold startH; congr 1; omega)
        go_wp2
        go_ret
        exact ⟨rfl, by rw [HE.out]⟩

/-- One byte more: the number behind it. -/
def nextH (h : Int) : Int := wrap64 (wrap64 (h * 6364136223846793005) + 1442695040888963407)

def mixX (h1 : Int) : Int := bits BinOp.and IntKind.i64 (bits BinOp.xor IntKind.i64 (h1 / 8589934592) (h1 / 35184372088832)) 255
/-- The byte that comes next. -/
def byteX (z : List Int) (len i : Nat) (h : Int) : Int := if i < len then bits .and .i64 (mixX (nextH h) + z[i]?.getD 0) 255 else mixX (nextH h)
/-- The place behind it. -/
def byteI (len i : Nat) : Nat := if i < len then i + 1 else i

theorem byteX_bound (z : List Int) (len i : Nat) (h : Int) : 0 ≤ byteX z len i h ∧ byteX z len i h ≤ 255 := by
  unfold byteX mixX; split <;> exact and_bound _ _ (by omega) (by omega)
theorem byteI_le (len i : Nat) (h : i ≤ len) : byteI len i ≤ len := by unfold byteI; split <;> omega

theorem ret_intD {k : IntKind} {a b : Int} (h : b = a) : Ending.returned (.int k a) = .returned (.int k b) := by rw [h]

theorem setCell_at {w : World} {B k : Nat} {cur : Array Value} {e : TypeId} {u : Value} (h : w.heap[B]? = some (.cells cur e (0, 0))) : (w.setCell ⟨B, k, none⟩ u).heap[B]? = some (.cells (cur.setIfInBounds k u) e (0, 0)) := by
  obtain ⟨hlt, hk⟩ := Array.getElem?_eq_some_iff.1 h
  show (w.heap.modify B _)[B]? = _
  rw [Array.getElem?_eq_getElem (by rw [Array.size_modify]; exact hlt), Array.getElem_modify_self, hk]
  rfl

set_option maxRecDepth 100000 in
set_option maxHeartbeats 800000 in
theorem byte_any (n₀ B : Nat) (a : Option Addr) (len cap i : Nat) (z : List Int) (h : Int) (w : World) (hB : n₀ ≤ B) (hc : CodeRow n₀ w a len z) (hcur : Cur w B a len cap i h) :
    Calls Tryz.prog 101 #[.pointer (some ⟨B, 0, none⟩)] w fun e w' => e = .returned (.int .i64 (byteX z len i h)) ∧ Cur w' B a len cap (byteI len i) (nextH h) ∧ w.grownBy w' (some B) := by
  obtain ⟨hl, hr⟩ := hc
  have HR := Lib.hid hr
  clear hr
  have hlt := (Array.getElem?_eq_some_iff.1 hcur).1
  have c0 : w.cell? ⟨B, 0, none⟩ = some (.slice a len cap) := by simp [World.cell?, show w.heap[B]? = _ from hcur]
  have c1 : w.cell? ⟨B, 1, none⟩ = some (.int .i64 i) := by simp [World.cell?, show w.heap[B]? = _ from hcur]
  have c2 : w.cell? ⟨B, 2, none⟩ = some (.int .i64 h) := by simp [World.cell?, show w.heap[B]? = _ from hcur]
  have f1 : w.frozen? ⟨B, 1, none⟩ = false := by simp [World.frozen?, show w.heap[B]? = _ from hcur]
  have f2 : w.frozen? ⟨B, 2, none⟩ = false := by simp [World.frozen?, show w.heap[B]? = _ from hcur]
  have HCUR := Lib.hid hcur
  clear hcur
  go_enter Tryz.func101, Tryz.ntmps101
  go_wp2
  generalize hh : wrap64 (wrap64 (h * 6364136223846793005) + 1442695040888963407) = h1
  obtain ⟨W1, hW1⟩ : ∃ W1, w.setCell ⟨B, 2, none⟩ (.int .i64 h1) = W1 := ⟨_, rfl⟩
  rw [hW1]
  have hcur1 : Cur W1 B a len cap i h1 := by
    rw [← hW1]; exact setCell_at HCUR.out
  have d0 : W1.cell? ⟨B, 0, none⟩ = some (.slice a len cap) := by simp [World.cell?, show W1.heap[B]? = _ from hcur1]
  have d1 : W1.cell? ⟨B, 1, none⟩ = some (.int .i64 i) := by simp [World.cell?, show W1.heap[B]? = _ from hcur1]
  have d2 : W1.cell? ⟨B, 2, none⟩ = some (.int .i64 h1) := by simp [World.cell?, show W1.heap[B]? = _ from hcur1]
  have g1 : W1.frozen? ⟨B, 1, none⟩ = false := by simp [World.frozen?, show W1.heap[B]? = _ from hcur1]
  have HN := Lib.hid (show nextH h = h1 from hh)
  have HW1 := Lib.hid hW1
  have HCUR1 := Lib.hid hcur1
  clear hh hW1 hcur1 c0 c1 c2 f1 f2
  go_quiet (fail)
  generalize hx : bits BinOp.and IntKind.i64 (bits BinOp.xor IntKind.i64 (h1 / 8589934592) (h1 / 35184372088832)) 255 = xv
  have HX := Lib.hid hx
  have hxb := and_bound (bits BinOp.xor IntKind.i64 (h1 / 8589934592) (h1 / 35184372088832)) 255 (by omega) (by omega)
  rw [hx] at hxb
  obtain ⟨hx0, hx1⟩ := hxb
  clear hx
  have hgrown : w.grownBy W1 (some B) := by
    rw [← HW1.out]
    exact ⟨rfl, rfl, rfl, by simp [World.setCell], fun j _ hne => Below.heap_setCell w _ _ j (fun e => hne (by rw [e]))⟩
  by_cases hp : i < len
  · obtain ⟨b, off, rfl, hbn, hcell⟩ := HR.out (by omega)
    obtain ⟨e1, e2, e3⟩ := hcell i hp
    have e1' : W1.cell? ⟨b, off + i, none⟩ = some (.int .u8 (z[i]?.getD 0)) := by
      rw [← HW1.out, World.cell?_of_block (Below.heap_setCell w _ _ b (by simp; omega))]; exact e1
    clear hcell e1
    go_wp2
    go_quiet (fail)
    go_wp2
    go_quiet (fail)
    go_wp2
    go_ret
    refine ⟨ret_intD ?_, ?_, ?_⟩
    · unfold byteX mixX; rw [if_pos hp, HN.out, HX.out]
    · have e : byteI len i = i + 1 := if_pos hp
      rw [e, HN.out]
      exact setCell_at (k := 1) (u := .int .i64 ((i : Int) + 1)) HCUR1.out
    · exact ⟨hgrown.os, hgrown.tape, hgrown.output, by have := hgrown.size; simpa [World.setCell] using this, fun j hj hne => (Below.heap_setCell W1 ⟨B, 1, none⟩ (.int .i64 ((i : Int) + 1)) j (fun e => hne (by rw [e]))).trans (hgrown.block j hj hne)⟩
  · go_wp2
    go_quiet (fail)
    go_wp2
    go_ret
    refine ⟨ret_intD ?_, ?_, ?_⟩
    · unfold byteX mixX; rw [if_neg hp, HN.out, HX.out]
    · have e : byteI len i = i := if_neg hp
      rw [e, HN.out]
      exact HCUR1.out
    · exact ⟨hgrown.os, hgrown.tape, hgrown.output, hgrown.size, hgrown.block⟩

/-- A cursor at a state: its place, and the number that is mixed. -/
def Drawn (n₀ B : Nat) (a : Option Addr) (len cap : Nat) (z : List Int) (s : Nat × Int) (w : World) : Prop := CodeRow n₀ w a len z ∧ Cur w B a len cap s.1 s.2 ∧ n₀ ≤ B

def nextS (len : Nat) (s : Nat × Int) : Nat × Int := (byteI len s.1, nextH s.2)
def byteV (z : List Int) (len : Nat) (s : Nat × Int) : Int := byteX z len s.1 s.2

theorem Drawn.lt {n₀ B : Nat} {a : Option Addr} {len cap : Nat} {z : List Int} {s : Nat × Int} {w : World} (h : Drawn n₀ B a len cap z s w) : B < w.heap.size := (Array.getElem?_eq_some_iff.1 h.2.1).1

theorem grown_below {n₀ B : Nat} {w w' : World} (hg : w.grownBy w' (some B)) (h1 : n₀ ≤ B) (h2 : B < w.heap.size) : Below n₀ w w' :=
  (Below.refl n₀ w).grown hg (by omega) (fun k e => by cases e; exact h1)

theorem Drawn.below {n₀ B : Nat} {a : Option Addr} {len cap : Nat} {z : List Int} {s : Nat × Int} {w w' : World} (h : Drawn n₀ B a len cap z s w) (hb : Below w.heap.size w w') : Drawn n₀ B a len cap z s w' :=
  ⟨h.1.kept (hb.mono (by have := h.lt; have := h.2.2; omega)), (hb.block B h.lt).trans h.2.1, h.2.2⟩

theorem Drawn.alloc {n₀ B : Nat} {a : Option Addr} {len cap : Nat} {z : List Int} {s : Nat × Int} {w : World} (h : Drawn n₀ B a len cap z s w) (o : Obj) : Drawn n₀ B a len cap z s (w.alloc o) :=
  h.below ((Below.refl _ _).alloc (Nat.le_refl _) o)

theorem grown_trans {x y u : World} {row : Option Nat} (h : x.grownBy y row) (k : y.grownBy u row) : x.grownBy u row :=
  ⟨k.os.trans h.os, k.tape.trans h.tape, k.output.trans h.output, Nat.le_trans h.size k.size, fun i hi hn => (k.block i (Nat.lt_of_lt_of_le hi h.size) hn).trans (h.block i hi hn)⟩

theorem byte_drawn (n₀ B : Nat) (a : Option Addr) (len cap : Nat) (z : List Int) (s : Nat × Int) (w : World) (h : Drawn n₀ B a len cap z s w) :
    Calls Tryz.prog 101 #[.pointer (some ⟨B, 0, none⟩)] w fun e w' => e = .returned (.int .i64 (byteV z len s)) ∧ Drawn n₀ B a len cap z (nextS len s) w' ∧ w.grownBy w' (some B) :=
  (byte_any n₀ B a len cap s.1 z s.2 w h.2.2 h.1 h.2.1).mono fun _ _ ⟨he, hc, hg⟩ => ⟨he, ⟨h.1.kept (grown_below hg h.2.2 h.lt), hc, h.2.2⟩, hg⟩

/-- A number below n, and the state behind it. -/
def belowV (z : List Int) (len : Nat) (s : Nat × Int) (n : Int) : Int :=
  if n ≤ 0 then 0 else if n ≤ 256 then byteV z len s % n
  else (byteV z len s * 16777216 + byteV z len (nextS len s) * 65536 + byteV z len (nextS len (nextS len s)) * 256 + byteV z len (nextS len (nextS len (nextS len s)))) % n
def belowS (len : Nat) (s : Nat × Int) (n : Int) : Nat × Int :=
  if n ≤ 0 then s else if n ≤ 256 then nextS len s else nextS len (nextS len (nextS len (nextS len s)))

theorem belowV_bound (z : List Int) (len : Nat) (s : Nat × Int) (n : Int) (h : 0 < n) : 0 ≤ belowV z len s n ∧ belowV z len s n < n := by
  unfold belowV
  rw [if_neg (by omega)]
  split
  · exact ⟨Int.emod_nonneg _ (by omega), Int.emod_lt_of_pos _ h⟩
  · exact ⟨Int.emod_nonneg _ (by omega), Int.emod_lt_of_pos _ h⟩

set_option maxRecDepth 100000 in
theorem below_drawn (n₀ B : Nat) (a : Option Addr) (len cap : Nat) (z : List Int) (s : Nat × Int) (n : Int) (w : World) (h : Drawn n₀ B a len cap z s w) :
    Calls Tryz.prog 67 #[.pointer (some ⟨B, 0, none⟩), .int .i64 n] w fun e w' => e = .returned (.int .i64 (belowV z len s n)) ∧ Drawn n₀ B a len cap z (belowS len s n) w' ∧ w.grownBy w' (some B) := by
  by_cases h0 : n ≤ 0
  · have HV := Lib.hid (show belowV z len s n = 0 from if_pos h0)
    have HS := Lib.hid (show belowS len s n = s from if_pos h0)
    go_enter Tryz.func67, Tryz.ntmps67
    go_wp2
    go_ret
    exact ⟨ret_intD HV.out, by rw [HS.out]; exact h, World.grownBy.refl _ _⟩
  · by_cases h1 : n ≤ 256
    · have HV := Lib.hid (show belowV z len s n = byteV z len s % n by unfold belowV; rw [if_neg h0, if_pos h1])
      have HS := Lib.hid (show belowS len s n = nextS len s by unfold belowS; rw [if_neg h0, if_pos h1])
      obtain ⟨b0, b1⟩ := byteX_bound z len s.1 s.2
      have c0 : 0 ≤ byteV z len s := b0
      have c1 : byteV z len s ≤ 255 := b1
      have h2 : 0 < n := by omega
      have h3 : (n == 0) = false := by rw [beq_eq_false_iff_ne]; omega
      clear b0 b1 h0
      go_enter Tryz.func67, Tryz.ntmps67
      go_wp2_with fail
      refine (byte_drawn n₀ B a len cap z s _ h).mono ?_
      rintro e w1 ⟨rfl, hd1, hg1⟩
      go_wp2
      go_ret
      exact ⟨ret_intD HV.out, by rw [HS.out]; exact hd1, hg1⟩
    · have HV := Lib.hid (show belowV z len s n = (byteV z len s * 16777216 + byteV z len (nextS len s) * 65536 + byteV z len (nextS len (nextS len s)) * 256 + byteV z len (nextS len (nextS len (nextS len s)))) % n by unfold belowV; rw [if_neg h0, if_neg h1])
      have HS := Lib.hid (show belowS len s n = nextS len (nextS len (nextS len (nextS len s))) by unfold belowS; rw [if_neg h0, if_neg h1])
      have bb : ∀ t, 0 ≤ byteV z len t ∧ byteV z len t ≤ 255 := fun t => byteX_bound z len t.1 t.2
      obtain ⟨p0, p1⟩ := bb s
      obtain ⟨q0, q1⟩ := bb (nextS len s)
      obtain ⟨r0, r1⟩ := bb (nextS len (nextS len s))
      obtain ⟨t0, t1⟩ := bb (nextS len (nextS len (nextS len s)))
      have h2 : 0 < n := by omega
      have h3 : (n == 0) = false := by rw [beq_eq_false_iff_ne]; omega
      clear bb h0
      go_enter Tryz.func67, Tryz.ntmps67
      go_wp2_with fail
      refine (byte_drawn n₀ B a len cap z s _ h).mono ?_
      rintro e w1 ⟨rfl, hd1, hg1⟩
      go_wp2_with fail
      refine (byte_drawn n₀ B a len cap z _ _ hd1).mono ?_
      rintro e w2 ⟨rfl, hd2, hg2⟩
      go_wp2_with fail
      refine (byte_drawn n₀ B a len cap z _ _ hd2).mono ?_
      rintro e w3 ⟨rfl, hd3, hg3⟩
      go_wp2_with fail
      refine (byte_drawn n₀ B a len cap z _ _ hd3).mono ?_
      rintro e w4 ⟨rfl, hd4, hg4⟩
      go_wp2
      go_ret
      exact ⟨ret_intD HV.out, by rw [HS.out]; exact hd4, grown_trans (grown_trans (grown_trans hg1 hg2) hg3) hg4⟩

end Go.Proofs.YtblchdmemhhcbaaGreat

namespace Go.Proofs.YtblchdmemhhcbaaGreat
set_option linter.unusedVariables false
set_option linter.unusedSimpArgs false
open Go.RowKit

set_option maxRecDepth 100000 in
theorem pickInt_drawn (n₀ B : Nat) (a : Option Addr) (len cap : Nat) (z : List Int) (s : Nat × Int) (g n c : Nat) (xs : List Int) (w : World) (h : Drawn n₀ B a len cap z s w) (hn : 0 < n) (hn2 : n ≤ 1048576) (hgB : g ≠ B) (hg : g < w.heap.size) (hx : ∀ i, i < n → w.cell? ⟨g, i, none⟩ = some (.int .i64 (xs[i]?.getD 0))) :
    Calls Tryz.prog 68 #[.pointer (some ⟨B, 0, none⟩), .slice (some ⟨g, 0, none⟩) n c] w fun e w' => e = .returned (.int .i64 (xs[(belowV z len s n).toNat]?.getD 0)) ∧ Drawn n₀ B a len cap z (belowS len s n) w' ∧ w.grownBy w' (some B) := by
  obtain ⟨b0, b1⟩ := belowV_bound z len s n (by omega)
  obtain ⟨k, hk⟩ := Int.eq_ofNat_of_zero_le b0
  have HX := Lib.hid hx
  have HK := Lib.hid hk
  have hkn : k < n := by omega
  clear hx hk
  go_enter Tryz.func68, Tryz.ntmps68
  go_wp2_with fail
  refine (below_drawn n₀ B a len cap z s n _ h).mono ?_
  rintro e w1 ⟨rfl, hd1, hg1⟩
  have hc : w1.cell? ⟨g, k, none⟩ = some (.int .i64 (xs[k]?.getD 0)) := by
    rw [World.cell?_of_block (hg1.block g hg (fun e => hgB (by cases e; rfl)))]
    exact HX.out k hkn
  clear b0 b1
  rw [HK.out]
  go_wp2
  go_ret
  exact ⟨ret_intD (by rw [HK.out]; rfl), hd1, hg1⟩

theorem ints_cells (w : World) (xs : List Int) (t : TypeId) : ∀ i, i < xs.length → (w.alloc (.cells (xs.map (Value.int .i64)).toArray t)).cell? ⟨w.heap.size, i, none⟩ = some (.int .i64 (xs[i]?.getD 0)) := by
  intro i hi
  rw [World.cell?_alloc_at _ _ _ _ rfl]
  simp [hi]

theorem CodeRow.start {n₀ : Nat} {w : World} {a : Option Addr} {len cap : Nat} {z : List Int} (hc : CodeRow n₀ w a len z) (hn : n₀ ≤ w.heap.size) :
    Drawn n₀ w.heap.size a len cap z (0, startH z len) (w.alloc (.cells #[.slice a len cap, .int .i64 0, .int .i64 (startH z len)] 95)) :=
  ⟨hc.kept ((Below.refl _ _).alloc hn _), World.alloc_heap_new w _, hn⟩

end Go.Proofs.YtblchdmemhhcbaaGreat

namespace Go.Proofs.YtblchdmemhhcbaaGreat
set_option linter.unusedVariables false
set_option linter.unusedSimpArgs false
open Go.RowKit

theorem grown_of_below {w w' : World} {row : Option Nat} (h : Below w.heap.size w w') : w.grownBy w' row :=
  ⟨h.os, h.tape, h.output, h.size, fun i hi _ => h.block i hi⟩

theorem grown_setCell {x y : World} {row : Option Nat} (h : x.grownBy y row) {p : Addr} (hp : x.heap.size ≤ p.block) (v : Value) : x.grownBy (y.setCell p v) row :=
  ⟨h.os, h.tape, h.output, by simpa [World.setCell] using h.size, fun i hi hn => (Below.heap_setCell y p v i (by omega)).trans (h.block i hi hn)⟩

theorem Drawn.setCell {n₀ B : Nat} {a : Option Addr} {len cap : Nat} {z : List Int} {s : Nat × Int} {w : World} (h : Drawn n₀ B a len cap z s w) {p : Addr} (hp : B < p.block) (v : Value) : Drawn n₀ B a len cap z s (w.setCell p v) :=
  ⟨h.1.kept ((Below.refl _ _).setCell (by have := h.2.2; omega) v), (Below.heap_setCell w p v B (by omega)).trans h.2.1, h.2.2⟩

theorem once_drawn (n₀ B : Nat) (a : Option Addr) (len cap : Nat) (z : List Int) (s : Nat × Int) (n : Int) (w : World) (h : Drawn n₀ B a len cap z s w) :
    Calls Tryz.prog 34 #[.pointer (some ⟨B, 0, none⟩), .int .i64 n] w fun e w' => e = .returned (.bool (belowV z len s n == 0)) ∧ Drawn n₀ B a len cap z (belowS len s n) w' ∧ w.grownBy w' (some B) := by
  go_enter Tryz.func34, Tryz.ntmps34
  go_wp2_with fail
  refine (below_drawn n₀ B a len cap z s n _ h).mono ?_
  rintro e w1 ⟨rfl, hd1, hg1⟩
  go_wp2
  go_ret
  exact ⟨rfl, hd1, hg1⟩

def byteL : List Int := [0, 1, 9, 16, 127, 128, 153, 255, 154, 80]
def b2V (z : List Int) (len : Nat) (s : Nat × Int) : Int := if belowV z len s 2 = 0 then byteL[(belowV z len (belowS len s 2) 10).toNat]?.getD 0 else byteV z len (belowS len s 2)
def b2S (z : List Int) (len : Nat) (s : Nat × Int) : Nat × Int := if belowV z len s 2 = 0 then belowS len (belowS len s 2) 10 else nextS len (belowS len s 2)

theorem byteL_bd (i : Nat) : 0 ≤ byteL[i]?.getD 0 ∧ byteL[i]?.getD 0 ≤ 255 := by
  cases hq : byteL[i]? with
  | none => simp
  | some y =>
    have hm := List.mem_of_getElem? hq
    simp only [byteL, List.mem_cons, List.not_mem_nil, or_false] at hm
    simp only [Option.getD_some]
    omega

theorem b2V_bd (z : List Int) (len : Nat) (s : Nat × Int) : 0 ≤ b2V z len s ∧ b2V z len s ≤ 255 := by
  unfold b2V
  split
  · exact byteL_bd _
  · exact byteX_bound z len _ _

set_option maxRecDepth 100000 in
theorem byte2_drawn (n₀ B : Nat) (a : Option Addr) (len cap : Nat) (z : List Int) (s : Nat × Int) (w : World) (h : Drawn n₀ B a len cap z s w) :
    Calls Tryz.prog 97 #[.pointer (some ⟨B, 0, none⟩)] w fun e w' => e = .returned (.int .u8 (b2V z len s)) ∧ Drawn n₀ B a len cap z (b2S z len s) w' ∧ w.grownBy w' (some B) := by
  by_cases h0 : belowV z len s 2 = 0
  · have HV := Lib.hid (show b2V z len s = byteL[(belowV z len (belowS len s 2) 10).toNat]?.getD 0 from if_pos h0)
    have HS := Lib.hid (show b2S z len s = belowS len (belowS len s 2) 10 from if_pos h0)
    have h1 : (belowV z len s 2 == 0) = true := by rw [h0]; rfl
    obtain ⟨q0, q1⟩ := byteL_bd (belowV z len (belowS len s 2) 10).toNat
    clear h0
    go_enter Tryz.func97, Tryz.ntmps97
    go_wp2_with fail
    refine (once_drawn n₀ B a len cap z s 2 _ h).mono ?_
    rintro e w1 ⟨rfl, hd1, hg1⟩
    rw [h1]
    clear h1
    go_wp2_with fail
    have hcells := ints_cells w1 byteL 3
    refine (pickInt_drawn n₀ B a len cap z (belowS len s 2) w1.heap.size 10 10 byteL _ (hd1.alloc _) (by omega) (by omega) (by have := hd1.lt; omega) (by simp) (fun i hi => hcells i hi)).mono ?_
    rintro e w2 ⟨rfl, hd2, hg2⟩
    go_wp2
    go_ret
    refine ⟨ret_intD HV.out, by rw [HS.out]; exact hd2, ?_⟩
    exact grown_trans hg1 (grown_trans (World.grownBy_alloc w1 _ (some B)) hg2)
  · have HV := Lib.hid (show b2V z len s = byteV z len (belowS len s 2) from if_neg h0)
    have HS := Lib.hid (show b2S z len s = nextS len (belowS len s 2) from if_neg h0)
    have h1 : (belowV z len s 2 == 0) = false := by rw [beq_eq_false_iff_ne]; exact h0
    obtain ⟨q0, q1⟩ := byteX_bound z len (belowS len s 2).1 (belowS len s 2).2
    have c0 : 0 ≤ byteV z len (belowS len s 2) := q0
    have c1 : byteV z len (belowS len s 2) ≤ 255 := q1
    clear h0 q0 q1
    go_enter Tryz.func97, Tryz.ntmps97
    go_wp2_with fail
    refine (once_drawn n₀ B a len cap z s 2 _ h).mono ?_
    rintro e w1 ⟨rfl, hd1, hg1⟩
    rw [h1]
    clear h1
    go_wp2_with fail
    refine (byte_drawn n₀ B a len cap z _ _ hd1).mono ?_
    rintro e w2 ⟨rfl, hd2, hg2⟩
    go_wp2
    go_ret
    exact ⟨ret_intD HV.out, by rw [HS.out]; exact hd2, grown_trans hg1 hg2⟩

/-- A byte that is drawn: whichever it is. -/
def DrewByte (n₀ B : Nat) (a : Option Addr) (len cap : Nat) (z : List Int) (w : World) (e : Ending) (w' : World) : Prop :=
  ∃ (x : Int) (s : Nat × Int), 0 ≤ x ∧ x ≤ 255 ∧ e = .returned (.int .u8 x) ∧ Drawn n₀ B a len cap z s w' ∧ w.grownBy w' (some B)

theorem byte2_some (n₀ B : Nat) (a : Option Addr) (len cap : Nat) (z : List Int) (s : Nat × Int) (w : World) (h : Drawn n₀ B a len cap z s w) :
    Calls Tryz.prog 97 #[.pointer (some ⟨B, 0, none⟩)] w (DrewByte n₀ B a len cap z w) :=
  (byte2_drawn n₀ B a len cap z s w h).mono fun _ _ ⟨he, hd, hg⟩ => ⟨_, _, (b2V_bd z len s).1, (b2V_bd z len s).2, he, hd, hg⟩

end Go.Proofs.YtblchdmemhhcbaaGreat

namespace Go.Proofs.YtblchdmemhhcbaaGreat
set_option linter.unusedVariables false
set_option linter.unusedSimpArgs false
open Go.RowKit

theorem CodeRow.startS {n₀ : Nat} {w : World} {a : Option Addr} {len cap : Nat} {z : List Int} (hc : CodeRow n₀ w a len z) (hn : n₀ ≤ w.heap.size) :
    Drawn n₀ w.heap.size a len cap z (0, startH z len) (w.alloc (.cells #[.slice a len cap, .int .i64 0, .int .i64 (startH z len)] 95)) :=
  ⟨hc.kept ((Below.refl _ _).alloc hn _), World.alloc_heap_new w _, hn⟩

end Go.Proofs.YtblchdmemhhcbaaGreat

namespace Go.Proofs.YtblchdmemhhcbaaGreat
set_option linter.unusedVariables false
set_option linter.unusedSimpArgs false
open Go.RowKit

/-- A row of n bytes of which the first three are told. -/
def Three (w : World) (a : Option Addr) (n x0 x1 x2 : Nat) : Prop :=
  n = 0 ∨ ∃ g o, a = some ⟨g, o, none⟩ ∧ g < w.heap.size ∧ w.cell? ⟨g, o, none⟩ = some (.int .u8 x0) ∧ (2 ≤ n → w.cell? ⟨g, o + 1, none⟩ = some (.int .u8 x1)) ∧ (3 ≤ n → w.cell? ⟨g, o + 2, none⟩ = some (.int .u8 x2))

end Go.Proofs.YtblchdmemhhcbaaGreat

namespace Go.Proofs.YtblchdmemhhcbaaGreat
set_option linter.unusedVariables false
set_option linter.unusedSimpArgs false

/-- The parts of l ahead of, between and behind the gaps. -/
def cut (p : UInt8 → Bool) : List UInt8 → List (List UInt8)
  | [] => [[]]
  | c :: r => if p c then [] :: cut p r else match cut p r with
    | [] => [[c]]
    | x :: xs => (c :: x) :: xs

/-- No gap stands at the places b .. k - 1. -/
def NoGap (p : UInt8 → Bool) (l : List UInt8) (b k : Nat) : Prop := ∀ j, b ≤ j → j < k → p (l.getD j 0) = false

theorem NoGap.mem {p : UInt8 → Bool} {l : List UInt8} {b k : Nat} (h : NoGap p l b k) (hk : k ≤ l.length) : ∀ d ∈ (l.drop b).take (k - b), p d = false := by
  intro d hd
  obtain ⟨i, hi, rfl⟩ := List.mem_iff_getElem.1 hd
  simp at hi
  have := h (b + i) (by omega) (by omega)
  rw [List.getElem_take, List.getElem_drop]
  have e : l.getD (b + i) 0 = l[b + i]'(by omega) := by simp [List.getD, show b + i < l.length by omega]
  rw [e] at this
  exact this

theorem NoGap.nil (p : UInt8 → Bool) (l : List UInt8) (b : Nat) : NoGap p l b b := fun j h1 h2 => by omega
theorem NoGap.step {p : UInt8 → Bool} {l : List UInt8} {b k : Nat} (h : NoGap p l b k) (m : Nat) (hm : ∀ j, k ≤ j → j < m → p (l.getD j 0) = false) : NoGap p l b m := fun j h1 h2 => by
  by_cases hj : j < k
  · exact h j h1 hj
  · exact hm j (by omega) h2

end Go.Proofs.YtblchdmemhhcbaaGreat
