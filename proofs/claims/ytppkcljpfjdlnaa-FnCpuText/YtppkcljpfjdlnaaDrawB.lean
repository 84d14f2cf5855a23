/-
  Contracts over the program: bytes that are drawn: l01Once, l02Byte.
-/
import Derived.Test.YtppkcljpfjdlnaaDrawNum
import Derived.Deep.RegionWith
namespace Go.Proofs.Ytppkcljpfjdlnaa
set_option linter.unusedVariables false
set_option linter.unusedSimpArgs false
open Go.RowKit

theorem grown_of_below {w w' : World} {row : Option Nat} (h : Below w.heap.size w w') : w.grownBy w' row :=
  ⟨h.os, h.tape, h.output, h.size, fun i hi _ => h.block i hi⟩

theorem grown_setCell {x y : World} {row : Option Nat} (h : x.grownBy y row) {p : Addr} (hp : x.heap.size ≤ p.block) (v : Value) : x.grownBy (y.setCell p v) row :=
  ⟨h.os, h.tape, h.output, by simpa [World.setCell] using h.size, fun i hi hn => (Below.heap_setCell y p v i (by omega)).trans (h.block i hi hn)⟩

theorem Drawn.setCell {n₀ B : Nat} {a : Option Addr} {len cap : Nat} {z : List Int} {s : Nat × Int} {w : World} (h : Drawn n₀ B a len cap z s w) {p : Addr} (hp : B < p.block) (v : Value) : Drawn n₀ B a len cap z s (w.setCell p v) :=
  ⟨h.1.kept ((Below.refl _ _).setCell (by have := h.2.2; omega) v), (Below.heap_setCell w p v B (by omega)).trans h.2.1, h.2.2⟩

theorem once_drawn (n₀ B : Nat) (a : Option Addr) (len cap : Nat) (z : List Int) (s : Nat × Int) (n : Int) (w : World) (h : Drawn n₀ B a len cap z s w) :
    Calls Try.prog 52 #[.pointer (some ⟨B, 0, none⟩), .int .i64 n] w fun e w' => e = .returned (.bool (belowV z len s n == 0)) ∧ Drawn n₀ B a len cap z (belowS len s n) w' ∧ w.grownBy w' (some B) := by
  go_enter Try.func52, Try.ntmps52
  go_wp2_with fail
  refine (below_drawn n₀ B a len cap z s n _ h).mono ?_
  rintro e w1 ⟨rfl, hd1, hg1⟩
  go_wp2
  go_ret
  exact ⟨rfl, hd1, hg1⟩

def byteL : List Int := [0, 1, 9, 16, 127, 128, 153, 255, 154, 80]
def b2V (z : List Int) (len : Nat) (s : Nat × Int) : Int := if belowV z len s 2 = 0 then byteL[(belowV z len (belowS len s 2) 10).toNat]?.getD 0 else byteV z len (belowS len s 2)
def b2S (z : List Int) (len : Nat) (s : Nat × Int) : Nat × Int := if belowV z len s 2 = 0 then belowS len (belowS len s 2) 10 else nextS len (belowS len s 2)

theorem byteL_bd (i : Nat) : 0 ≤ byteL[i]?.getD 0 ∧ byteL[i]?.getD 0 ≤ 255 := by
  cases hq : byteL[i]? with
  | none => simp
  | some y =>
    have hm := List.mem_of_getElem? hq
    simp only [byteL, List.mem_cons, List.not_mem_nil, or_false] at hm
    simp only [Option.getD_some]
    omega

theorem b2V_bd (z : List Int) (len : Nat) (s : Nat × Int) : 0 ≤ b2V z len s ∧ b2V z len s ≤ 255 := by
  unfold b2V
  split
  · exact byteL_bd _
  · exact byteX_bound z len _ _

set_option maxRecDepth 100000 in
theorem byte2_drawn (n₀ B : Nat) (a : Option Addr) (len cap : Nat) (z : List Int) (s : Nat × Int) (w : World) (h : Drawn n₀ B a len cap z s w) :
    Calls Try.prog 48 #[.pointer (some ⟨B, 0, none⟩)] w fun e w' => e = .returned (.int .u8 (b2V z len s)) ∧ Drawn n₀ B a len cap z (b2S z len s) w' ∧ w.grownBy w' (some B) := by
  by_cases h0 : belowV z len s 2 = 0
  · have HV := Lib.hid (show b2V z len s = byteL[(belowV z len (belowS len s 2) 10).toNat]?.getD 0 from if_pos h0)
    have HS := Lib.hid (show b2S z len s = belowS len (belowS len s 2) 10 from if_pos h0)
    have h1 : (belowV z len s 2 == 0) = true := by rw [h0]; rfl
    obtain ⟨q0, q1⟩ := byteL_bd (belowV z len (belowS len s 2) 10).toNat
    clear h0
    go_enter Try.func48, Try.ntmps48
    go_wp2_with fail
    refine (once_drawn n₀ B a len cap z s 2 _ h).mono ?_
    rintro e w1 ⟨rfl, hd1, hg1⟩
    rw [h1]
    clear h1
    go_wp2_with fail
    have hcells := ints_cells w1 byteL 3
    refine (pickInt_drawn n₀ B a len cap z (belowS len s 2) w1.heap.size 10 10 byteL _ (hd1.alloc _) (by omega) (by omega) (by have := hd1.lt; omega) (by simp) (fun i hi => hcells i hi)).mono ?_
    rintro e w2 ⟨rfl, hd2, hg2⟩
    go_wp2
    go_ret
    refine ⟨ret_intD HV.out, by rw [HS.out]; exact hd2, ?_⟩
    exact grown_trans hg1 (grown_trans (World.grownBy_alloc w1 _ (some B)) hg2)
  · have HV := Lib.hid (show b2V z len s = byteV z len (belowS len s 2) from if_neg h0)
    have HS := Lib.hid (show b2S z len s = nextS len (belowS len s 2) from if_neg h0)
    have h1 : (belowV z len s 2 == 0) = false := by rw [beq_eq_false_iff_ne]; exact h0
    obtain ⟨q0, q1⟩ := byteX_bound z len (belowS len s 2).1 (belowS len s 2).2
    have c0 : 0 ≤ byteV z len (belowS len s 2) := q0
    have c1 : byteV z len (belowS len s 2) ≤ 255 := q1
    clear h0 q0 q1
    go_enter Try.func48, Try.ntmps48
    go_wp2_with fail
    refine (once_drawn n₀ B a len cap z s 2 _ h).mono ?_
    rintro e w1 ⟨rfl, hd1, hg1⟩
    rw [h1]
    clear h1
    go_wp2_with fail
    refine (byte_drawn n₀ B a len cap z _ _ hd1).mono ?_
    rintro e w2 ⟨rfl, hd2, hg2⟩
    go_wp2
    go_ret
    exact ⟨ret_intD HV.out, by rw [HS.out]; exact hd2, grown_trans hg1 hg2⟩

/-- A byte that is drawn: whichever it is. -/
def DrewByte (n₀ B : Nat) (a : Option Addr) (len cap : Nat) (z : List Int) (w : World) (e : Ending) (w' : World) : Prop :=
  ∃ (x : Int) (s : Nat × Int), 0 ≤ x ∧ x ≤ 255 ∧ e = .returned (.int .u8 x) ∧ Drawn n₀ B a len cap z s w' ∧ w.grownBy w' (some B)

theorem byte2_some (n₀ B : Nat) (a : Option Addr) (len cap : Nat) (z : List Int) (s : Nat × Int) (w : World) (h : Drawn n₀ B a len cap z s w) :
    Calls Try.prog 48 #[.pointer (some ⟨B, 0, none⟩)] w (DrewByte n₀ B a len cap z w) :=
  (byte2_drawn n₀ B a len cap z s w h).mono fun _ _ ⟨he, hd, hg⟩ => ⟨_, _, (b2V_bd z len s).1, (b2V_bd z len s).2, he, hd, hg⟩

end Go.Proofs.Ytppkcljpfjdlnaa
