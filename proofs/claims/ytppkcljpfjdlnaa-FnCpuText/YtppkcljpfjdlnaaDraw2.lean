/-
  Contracts over the program: bytes and flags that are drawn: l01Once, l02Byte, l02Flags, and what DrawAdc, DrawCmp, DrawRol and DrawPackP tell: bytes, and any flags.
-/
import Derived.Test.YtppkcljpfjdlnaaDrawB
import Derived.Test.YtppkcljpfjdlnaaAluE
import Derived.Deep.RegionWith
namespace Go.Proofs.Ytppkcljpfjdlnaa
set_option linter.unusedVariables false
set_option linter.unusedSimpArgs false
open Go.RowKit

theorem keep6_grown {W w1 : World} {B C : Nat} {a0 a1 a2 a3 a4 a5 : Value} {t : TypeId} (hg : W.grownBy w1 (some C)) (hne : B ≠ C) (h : W.heap[B]? = some (.cells #[a0, a1, a2, a3, a4, a5] t (0, 0))) : w1.heap[B]? = some (.cells #[a0, a1, a2, a3, a4, a5] t (0, 0)) :=
  (hg.block B (Array.getElem?_eq_some_iff.1 h).1 (fun e => hne (by cases e; rfl))).trans h

theorem free6 {w1 : World} {B : Nat} {a0 a1 a2 a3 a4 a5 : Value} {t : TypeId} (h : w1.heap[B]? = some (.cells #[a0, a1, a2, a3, a4, a5] t (0, 0))) :
    w1.frozen? ⟨B, 0, none⟩ = false ∧ w1.frozen? ⟨B, 1, none⟩ = false ∧ w1.frozen? ⟨B, 2, none⟩ = false ∧ w1.frozen? ⟨B, 3, none⟩ = false ∧ w1.frozen? ⟨B, 4, none⟩ = false ∧ w1.frozen? ⟨B, 5, none⟩ = false := by
  refine ⟨?_, ?_, ?_, ?_, ?_, ?_⟩
  all_goals simp [World.frozen?, h]

/-- Flags that are drawn: whichever they are. -/
def DrewFlags (n₀ B : Nat) (a : Option Addr) (len cap : Nat) (z : List Int) (w : World) (e : Ending) (w' : World) : Prop :=
  ∃ n v d i zf c : Bool, ∃ s : Nat × Int, e = .returned (.agg #[.bool n, .bool v, .bool d, .bool i, .bool zf, .bool c]) ∧ Drawn n₀ B a len cap z s w' ∧ w.grownBy w' (some B)

set_option maxRecDepth 100000 in
theorem flags2_drawn (n₀ B : Nat) (a : Option Addr) (len cap : Nat) (z : List Int) (s : Nat × Int) (w : World) (h : Drawn n₀ B a len cap z s w) :
    Calls Try.prog 72 #[.pointer (some ⟨B, 0, none⟩)] w (DrewFlags n₀ B a len cap z w) := by
  have hlt := h.lt
  obtain ⟨q0, q1⟩ := byteX_bound z len s.1 s.2
  have c0 : 0 ≤ byteV z len s := q0
  have c1 : byteV z len s ≤ 255 := q1
  clear q0 q1
  go_enter Try.func72, Try.ntmps72
  go_wp2_with fail
  refine (byte_drawn n₀ B a len cap z s _ (h.alloc _)).mono ?_
  rintro e w1 ⟨rfl, hd1, hg1⟩
  have B1 := Lib.hid (keep6_grown hg1 (by omega) (new6 w))
  have gg1 := grown_trans (World.grownBy_alloc w _ (some B)) hg1
  generalize byteV z len s = x at *
  go_wp2_with fail
  refine (specUnpackP_any _ _).mono ?_
  rintro e w2 ⟨rfl, hb2⟩
  have B2 := Lib.hid (keep6 hb2 B1.out)
  have hd2 := hd1.below hb2
  have gg2 := grown_trans gg1 (grown_of_below hb2)
  obtain ⟨z2, d0, d1, d2, d3, d4, d5⟩ := cells6 B2.out
  obtain ⟨f0, f1, f2, f3, f4, f5⟩ := free6 B2.out
  go_wp2
  refine bodyPost_ret (v := .agg #[.bool (hasB x 128), .bool (hasB x 64), .bool (hasB x 8), .bool (hasB x 4), .bool (hasB x 2), .bool (hasB x 1)]) (by simp [results, Try.results72, go_sem, d0, d1, d2, d3, d4, d5]) rfl ⟨_, _, _, _, _, _, nextS len s, rfl, ?_, ?_⟩
  · exact (((((hd2.setCell hlt _).setCell hlt _).setCell hlt _).setCell hlt _).setCell hlt _).setCell hlt _
  · exact grown_setCell (grown_setCell (grown_setCell (grown_setCell (grown_setCell (grown_setCell gg2 (Nat.le_refl _) _) (Nat.le_refl _) _) (Nat.le_refl _) _) (Nat.le_refl _) _) (Nat.le_refl _) _) (Nat.le_refl _) _

/-- Two bytes and flags that are drawn; one byte and flags; flags and a bool. -/
def DrewTwo (w : World) (e : Ending) (w' : World) : Prop :=
  ∃ (x y : Int) (n v d i zf c : Bool), 0 ≤ x ∧ x ≤ 255 ∧ 0 ≤ y ∧ y ≤ 255 ∧ e = .returned (.tuple #[.int .u8 x, .int .u8 y, .agg #[.bool n, .bool v, .bool d, .bool i, .bool zf, .bool c]]) ∧ Below w.heap.size w w'
def DrewOne (w : World) (e : Ending) (w' : World) : Prop :=
  ∃ (x : Int) (n v d i zf c : Bool), 0 ≤ x ∧ x ≤ 255 ∧ e = .returned (.tuple #[.int .u8 x, .agg #[.bool n, .bool v, .bool d, .bool i, .bool zf, .bool c]]) ∧ Below w.heap.size w w'
def DrewPack (w : World) (e : Ending) (w' : World) : Prop :=
  ∃ (n v d i zf c brk : Bool), e = .returned (.tuple #[.agg #[.bool n, .bool v, .bool d, .bool i, .bool zf, .bool c], .bool brk]) ∧ Below w.heap.size w w'

end Go.Proofs.Ytppkcljpfjdlnaa
