/-
  Plain facts on cutting texts, without any Go: the parts of a text between gaps, its lines and its words; and which bytes a sign of a text takes.
-/
import Derived.Test.YtckfdbjjjgfbfaaUDraw
import Derived.Deep.RegionWith
import Derived.Test.YtckfdbjjjgfbfaaUSpan
import Derived.Test.YtckfdbjjjgfbfaaUOpC
import Derived.Test.YtckfdbjjjgfbfaaUAluNum
import Derived.Laws.Concat
import Derived.Laws.MakeOwn
import Derived.Laws.BytesArg
import Derived.Laws.BitsLemmas
import Derived.OwnWalk
import Derived.Deep.QuietTactic
import Derived.BigQuiet
import Derived.WalkSmall
import Derived.Laws.RangeAny
namespace Go.Proofs.Ytckfdbjjjgfbfaa
set_option linter.unusedVariables false
set_option linter.unusedSimpArgs false
open Go.RowKit

set_option maxRecDepth 100000 in
theorem pickInt_drawn (n₀ B : Nat) (a : Option Addr) (len cap : Nat) (z : List Int) (s : Nat × Int) (g n c : Nat) (xs : List Int) (w : World) (h : Drawn n₀ B a len cap z s w) (hn : 0 < n) (hn2 : n ≤ 1048576) (hgB : g ≠ B) (hg : g < w.heap.size) (hx : ∀ i, i < n → w.cell? ⟨g, i, none⟩ = some (.int .i64 (xs[i]?.getD 0))) :
    Calls Try.prog 47 #[.pointer (some ⟨B, 0, none⟩), .slice (some ⟨g, 0, none⟩) n c] w fun e w' => e = .returned (.int .i64 (xs[(belowV z len s n).toNat]?.getD 0)) ∧ Drawn n₀ B a len cap z (belowS len s n) w' ∧ w.grownBy w' (some B) := by
  obtain ⟨b0, b1⟩ := belowV_bound z len s n (by omega)
  obtain ⟨k, hk⟩ := Int.eq_ofNat_of_zero_le b0
  have HX := Lib.hid hx
  have HK := Lib.hid hk
  have hkn : k < n := by omega
  clear hx hk
  go_enter Try.func47, Try.ntmps47
  go_wp2_with fail
  refine (below_drawn n₀ B a len cap z s n _ h).mono ?_
  rintro e w1 ⟨rfl, hd1, hg1⟩
  have hc : w1.cell? ⟨g, k, none⟩ = some (.int .i64 (xs[k]?.getD 0)) := by
    rw [World.cell?_of_block (hg1.block g hg (fun e => hgB (by cases e; rfl)))]
    exact HX.out k hkn
  clear b0 b1
  rw [HK.out]
  go_wp2
  go_ret
  exact ⟨ret_intD (by rw [HK.out]; rfl), hd1, hg1⟩

theorem ints_cells (w : World) (xs : List Int) (t : TypeId) : ∀ i, i < xs.length → (w.alloc (.cells (xs.map (Value.int .i64)).toArray t)).cell? ⟨w.heap.size, i, none⟩ = some (.int .i64 (xs[i]?.getD 0)) := by
  intro i hi
  rw [World.cell?_alloc_at _ _ _ _ rfl]
  simp [hi]

theorem CodeRow.start {n₀ : Nat} {w : World} {a : Option Addr} {len cap : Nat} {z : List Int} (hc : CodeRow n₀ w a len z) (hn : n₀ ≤ w.heap.size) :
    Drawn n₀ w.heap.size a len cap z (0, startH z len) (w.alloc (.cells #[.slice a len cap, .int .i64 0, .int .i64 (startH z len)] 85)) :=
  ⟨hc.kept ((Below.refl _ _).alloc hn _), World.alloc_heap_new w _, hn⟩

end Go.Proofs.Ytckfdbjjjgfbfaa

namespace Go.Proofs.Ytckfdbjjjgfbfaa
set_option linter.unusedVariables false
set_option linter.unusedSimpArgs false
open Go.RowKit

theorem grown_of_below {w w' : World} {row : Option Nat} (h : Below w.heap.size w w') : w.grownBy w' row :=
  ⟨h.os, h.tape, h.output, h.size, fun i hi _ => h.block i hi⟩

theorem grown_setCell {x y : World} {row : Option Nat} (h : x.grownBy y row) {p : Addr} (hp : x.heap.size ≤ p.block) (v : Value) : x.grownBy (y.setCell p v) row :=
  ⟨h.os, h.tape, h.output, by simpa [World.setCell] using h.size, fun i hi hn => (Below.heap_setCell y p v i (by omega)).trans (h.block i hi hn)⟩

theorem Drawn.setCell {n₀ B : Nat} {a : Option Addr} {len cap : Nat} {z : List Int} {s : Nat × Int} {w : World} (h : Drawn n₀ B a len cap z s w) {p : Addr} (hp : B < p.block) (v : Value) : Drawn n₀ B a len cap z s (w.setCell p v) :=
  ⟨h.1.kept ((Below.refl _ _).setCell (by have := h.2.2; omega) v), (Below.heap_setCell w p v B (by omega)).trans h.2.1, h.2.2⟩

theorem once_drawn (n₀ B : Nat) (a : Option Addr) (len cap : Nat) (z : List Int) (s : Nat × Int) (n : Int) (w : World) (h : Drawn n₀ B a len cap z s w) :
    Calls Try.prog 49 #[.pointer (some ⟨B, 0, none⟩), .int .i64 n] w fun e w' => e = .returned (.bool (belowV z len s n == 0)) ∧ Drawn n₀ B a len cap z (belowS len s n) w' ∧ w.grownBy w' (some B) := by
  go_enter Try.func49, Try.ntmps49
  go_wp2_with fail
  refine (below_drawn n₀ B a len cap z s n _ h).mono ?_
  rintro e w1 ⟨rfl, hd1, hg1⟩
  go_wp2
  go_ret
  exact ⟨rfl, hd1, hg1⟩

def byteL : List Int := [0, 1, 9, 16, 127, 128, 153, 255, 154, 80]
def b2V (z : List Int) (len : Nat) (s : Nat × Int) : Int := if belowV z len s 2 = 0 then byteL[(belowV z len (belowS len s 2) 10).toNat]?.getD 0 else byteV z len (belowS len s 2)
def b2S (z : List Int) (len : Nat) (s : Nat × Int) : Nat × Int := if belowV z len s 2 = 0 then belowS len (belowS len s 2) 10 else nextS len (belowS len s 2)

theorem byteL_bd (i : Nat) : 0 ≤ byteL[i]?.getD 0 ∧ byteL[i]?.getD 0 ≤ 255 := by
  cases hq : byteL[i]? with
  | none => simp
  | some y =>
    have hm := List.mem_of_getElem? hq
    simp only [byteL, List.mem_cons, List.not_mem_nil, or_false] at hm
    simp only [Option.getD_some]
    omega

theorem b2V_bd (z : List Int) (len : Nat) (s : Nat × Int) : 0 ≤ b2V z len s ∧ b2V z len s ≤ 255 := by
  unfold b2V
  split
  · exact byteL_bd _
  · exact byteX_bound z len _ _

set_option maxRecDepth 100000 in
theorem byte2_drawn (n₀ B : Nat) (a : Option Addr) (len cap : Nat) (z : List Int) (s : Nat × Int) (w : World) (h : Drawn n₀ B a len cap z s w) :
    Calls Try.prog 63 #[.pointer (some ⟨B, 0, none⟩)] w fun e w' => e = .returned (.int .u8 (b2V z len s)) ∧ Drawn n₀ B a len cap z (b2S z len s) w' ∧ w.grownBy w' (some B) := by
  by_cases h0 : belowV z len s 2 = 0
  · have HV := Lib.hid (show b2V z len s = byteL[(belowV z len (belowS len s 2) 10).toNat]?.getD 0 from if_pos h0)
    have HS := Lib.hid (show b2S z len s = belowS len (belowS len s 2) 10 from if_pos h0)
    have h1 : (belowV z len s 2 == 0) = true := by rw [h0]; rfl
    obtain ⟨q0, q1⟩ := byteL_bd (belowV z len (belowS len s 2) 10).toNat
    clear h0
    go_enter Try.func63, Try.ntmps63
    go_wp2_with fail
    refine (once_drawn n₀ B a len cap z s 2 _ h).mono ?_
    rintro e w1 ⟨rfl, hd1, hg1⟩
    rw [h1]
    clear h1
    go_wp2_with fail
    have hcells := ints_cells w1 byteL 3
    refine (pickInt_drawn n₀ B a len cap z (belowS len s 2) w1.heap.size 10 10 byteL _ (hd1.alloc _) (by omega) (by omega) (by have := hd1.lt; omega) (by simp) (fun i hi => hcells i hi)).mono ?_
    rintro e w2 ⟨rfl, hd2, hg2⟩
    go_wp2
    go_ret
    refine ⟨ret_intD HV.out, by rw [HS.out]; exact hd2, ?_⟩
    exact grown_trans hg1 (grown_trans (World.grownBy_alloc w1 _ (some B)) hg2)
  · have HV := Lib.hid (show b2V z len s = byteV z len (belowS len s 2) from if_neg h0)
    have HS := Lib.hid (show b2S z len s = nextS len (belowS len s 2) from if_neg h0)
    have h1 : (belowV z len s 2 == 0) = false := by rw [beq_eq_false_iff_ne]; exact h0
    obtain ⟨q0, q1⟩ := byteX_bound z len (belowS len s 2).1 (belowS len s 2).2
    have c0 : 0 ≤ byteV z len (belowS len s 2) := q0
    have c1 : byteV z len (belowS len s 2) ≤ 255 := q1
    clear h0 q0 q1
    go_enter Try.func63, Try.ntmps63
    go_wp2_with fail
    refine (once_drawn n₀ B a len cap z s 2 _ h).mono ?_
    rintro e w1 ⟨rfl, hd1, hg1⟩
    rw [h1]
    clear h1
    go_wp2_with fail
    refine (byte_drawn n₀ B a len cap z _ _ hd1).mono ?_
    rintro e w2 ⟨rfl, hd2, hg2⟩
    go_wp2
    go_ret
    exact ⟨ret_intD HV.out, by rw [HS.out]; exact hd2, grown_trans hg1 hg2⟩

/-- A byte that is drawn: whichever it is. -/
def DrewByte (n₀ B : Nat) (a : Option Addr) (len cap : Nat) (z : List Int) (w : World) (e : Ending) (w' : World) : Prop :=
  ∃ (x : Int) (s : Nat × Int), 0 ≤ x ∧ x ≤ 255 ∧ e = .returned (.int .u8 x) ∧ Drawn n₀ B a len cap z s w' ∧ w.grownBy w' (some B)

theorem byte2_some (n₀ B : Nat) (a : Option Addr) (len cap : Nat) (z : List Int) (s : Nat × Int) (w : World) (h : Drawn n₀ B a len cap z s w) :
    Calls Try.prog 63 #[.pointer (some ⟨B, 0, none⟩)] w (DrewByte n₀ B a len cap z w) :=
  (byte2_drawn n₀ B a len cap z s w h).mono fun _ _ ⟨he, hd, hg⟩ => ⟨_, _, (b2V_bd z len s).1, (b2V_bd z len s).2, he, hd, hg⟩

end Go.Proofs.Ytckfdbjjjgfbfaa

namespace Go.Proofs.Ytckfdbjjjgfbfaa
set_option linter.unusedVariables false
set_option linter.unusedSimpArgs false
open Go.RowKit

theorem CodeRow.startS {n₀ : Nat} {w : World} {a : Option Addr} {len cap : Nat} {z : List Int} (hc : CodeRow n₀ w a len z) (hn : n₀ ≤ w.heap.size) :
    Drawn n₀ w.heap.size a len cap z (0, startH z len) (w.alloc (.cells #[.slice a len cap, .int .i64 0, .int .i64 (startH z len)] 85)) :=
  ⟨hc.kept ((Below.refl _ _).alloc hn _), World.alloc_heap_new w _, hn⟩

end Go.Proofs.Ytckfdbjjjgfbfaa

namespace Go.Proofs.Ytckfdbjjjgfbfaa
set_option linter.unusedVariables false
set_option linter.unusedSimpArgs false
open Go.RowKit

/-- A row of n bytes of which the first three are told. -/
def Three (w : World) (a : Option Addr) (n x0 x1 x2 : Nat) : Prop :=
  n = 0 ∨ ∃ g o, a = some ⟨g, o, none⟩ ∧ g < w.heap.size ∧ w.cell? ⟨g, o, none⟩ = some (.int .u8 x0) ∧ (2 ≤ n → w.cell? ⟨g, o + 1, none⟩ = some (.int .u8 x1)) ∧ (3 ≤ n → w.cell? ⟨g, o + 2, none⟩ = some (.int .u8 x2))

end Go.Proofs.Ytckfdbjjjgfbfaa

namespace Go.Proofs.Ytckfdbjjjgfbfaa
set_option linter.unusedVariables false
set_option linter.unusedSimpArgs false

/-- No gap stands at the places b .. k - 1. -/
def NoGap (p : UInt8 → Bool) (l : List UInt8) (b k : Nat) : Prop := ∀ j, b ≤ j → j < k → p (l.getD j 0) = false

theorem NoGap.mem {p : UInt8 → Bool} {l : List UInt8} {b k : Nat} (h : NoGap p l b k) (hk : k ≤ l.length) : ∀ d ∈ (l.drop b).take (k - b), p d = false := by
  intro d hd
  obtain ⟨i, hi, rfl⟩ := List.mem_iff_getElem.1 hd
  simp at hi
  have := h (b + i) (by omega) (by omega)
  rw [List.getElem_take, List.getElem_drop]
  have e : l.getD (b + i) 0 = l[b + i]'(by omega) := by simp [List.getD, show b + i < l.length by omega]
  rw [e] at this
  exact this

theorem NoGap.nil (p : UInt8 → Bool) (l : List UInt8) (b : Nat) : NoGap p l b b := fun j h1 h2 => by omega
theorem NoGap.step {p : UInt8 → Bool} {l : List UInt8} {b k : Nat} (h : NoGap p l b k) (m : Nat) (hm : ∀ j, k ≤ j → j < m → p (l.getD j 0) = false) : NoGap p l b m := fun j h1 h2 => by
  by_cases hj : j < k
  · exact h j h1 hj
  · exact hm j (by omega) h2

end Go.Proofs.Ytckfdbjjjgfbfaa
