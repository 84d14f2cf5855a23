/-
  Contracts over the program: a processor that is drawn.
-/
import Derived.Test.YtckfdbjjjgfbfaaUCut
import Derived.Test.YtckfdbjjjgfbfaaUAluE
import Derived.Deep.RegionWith
import Derived.Test.YtckfdbjjjgfbfaaUDrawAsm
import Derived.Test.YtckfdbjjjgfbfaaUAluNum
import Derived.Test.YtckfdbjjjgfbfaaUSpan
namespace Go.Proofs.Ytckfdbjjjgfbfaa
set_option linter.unusedVariables false
set_option linter.unusedSimpArgs false
open Go.RowKit

theorem keep6_grown {W w1 : World} {B C : Nat} {a0 a1 a2 a3 a4 a5 : Value} {t : TypeId} (hg : W.grownBy w1 (some C)) (hne : B ≠ C) (h : W.heap[B]? = some (.cells #[a0, a1, a2, a3, a4, a5] t (0, 0))) : w1.heap[B]? = some (.cells #[a0, a1, a2, a3, a4, a5] t (0, 0)) :=
  (hg.block B (Array.getElem?_eq_some_iff.1 h).1 (fun e => hne (by cases e; rfl))).trans h

theorem free6 {w1 : World} {B : Nat} {a0 a1 a2 a3 a4 a5 : Value} {t : TypeId} (h : w1.heap[B]? = some (.cells #[a0, a1, a2, a3, a4, a5] t (0, 0))) :
    w1.frozen? ⟨B, 0, none⟩ = false ∧ w1.frozen? ⟨B, 1, none⟩ = false ∧ w1.frozen? ⟨B, 2, none⟩ = false ∧ w1.frozen? ⟨B, 3, none⟩ = false ∧ w1.frozen? ⟨B, 4, none⟩ = false ∧ w1.frozen? ⟨B, 5, none⟩ = false := by
  refine ⟨?_, ?_, ?_, ?_, ?_, ?_⟩
  all_goals simp [World.frozen?, h]

/-- Flags that are drawn: whichever they are. -/
def DrewFlags (n₀ B : Nat) (a : Option Addr) (len cap : Nat) (z : List Int) (w : World) (e : Ending) (w' : World) : Prop :=
  ∃ n v d i zf c : Bool, ∃ s : Nat × Int, e = .returned (.agg #[.bool n, .bool v, .bool d, .bool i, .bool zf, .bool c]) ∧ Drawn n₀ B a len cap z s w' ∧ w.grownBy w' (some B)

set_option maxRecDepth 100000 in
theorem flags2_drawn (n₀ B : Nat) (a : Option Addr) (len cap : Nat) (z : List Int) (s : Nat × Int) (w : World) (h : Drawn n₀ B a len cap z s w) :
    Calls Try.prog 65 #[.pointer (some ⟨B, 0, none⟩)] w (DrewFlags n₀ B a len cap z w) := by
  have hlt := h.lt
  obtain ⟨q0, q1⟩ := byteX_bound z len s.1 s.2
  have c0 : 0 ≤ byteV z len s := q0
  have c1 : byteV z len s ≤ 255 := q1
  clear q0 q1
  go_enter Try.func65, Try.ntmps65
  go_wp2_with fail
  refine (byte_drawn n₀ B a len cap z s _ (h.alloc _)).mono ?_
  rintro e w1 ⟨rfl, hd1, hg1⟩
  have B1 := Lib.hid (keep6_grown hg1 (by omega) (new6 w))
  have gg1 := grown_trans (World.grownBy_alloc w _ (some B)) hg1
  generalize byteV z len s = x at *
  go_wp2_with fail
  refine (specUnpackP_any _ _).mono ?_
  rintro e w2 ⟨rfl, hb2⟩
  have B2 := Lib.hid (keep6 hb2 B1.out)
  have hd2 := hd1.below hb2
  have gg2 := grown_trans gg1 (grown_of_below hb2)
  obtain ⟨z2, d0, d1, d2, d3, d4, d5⟩ := cells6 B2.out
  obtain ⟨f0, f1, f2, f3, f4, f5⟩ := free6 B2.out
  go_wp2
  refine bodyPost_ret (v := .agg #[.bool (hasB x 128), .bool (hasB x 64), .bool (hasB x 8), .bool (hasB x 4), .bool (hasB x 2), .bool (hasB x 1)]) (by simp [results, Try.results65, go_sem, d0, d1, d2, d3, d4, d5]) rfl ⟨_, _, _, _, _, _, nextS len s, rfl, ?_, ?_⟩
  · exact (((((hd2.setCell hlt _).setCell hlt _).setCell hlt _).setCell hlt _).setCell hlt _).setCell hlt _
  · exact grown_setCell (grown_setCell (grown_setCell (grown_setCell (grown_setCell (grown_setCell gg2 (Nat.le_refl _) _) (Nat.le_refl _) _) (Nat.le_refl _) _) (Nat.le_refl _) _) (Nat.le_refl _) _) (Nat.le_refl _) _

end Go.Proofs.Ytckfdbjjjgfbfaa

namespace Go.Proofs.Ytckfdbjjjgfbfaa
set_option linter.unusedVariables false
set_option linter.unusedSimpArgs false
open Go.RowKit

theorem BoxN.grown {w w' : World} {B C : Nat} {t : TypeId} {cs : Array Value} (h : BoxN w B t cs) (hg : w.grownBy w' (some C)) (hne : B ≠ C) : BoxN w' B t cs := (hg.block B h.lt (by intro e; cases e; exact hne rfl)).trans h

def DrewCpu (n₀ B : Nat) (a : Option Addr) (len cap : Nat) (z : List Int) (w : World) (e : Ending) (w' : World) : Prop :=
  ∃ (c : CpuN) (s : Nat × Int), c.ok ∧ e = .returned (cpuV c) ∧ Drawn n₀ B a len cap z s w' ∧ w.grownBy w' (some B)

def sL : List Int := [255, 253, 0, 1, 200]

theorem sL_bd (i : Nat) : ∃ Q : Nat, sL[i]?.getD 0 = (Q : Int) ∧ Q < 256 := by
  unfold sL
  rcases i with _ | _ | _ | _ | _ | i
  · exact ⟨255, rfl, by omega⟩
  · exact ⟨253, rfl, by omega⟩
  · exact ⟨0, rfl, by omega⟩
  · exact ⟨1, rfl, by omega⟩
  · exact ⟨200, rfl, by omega⟩
  · exact ⟨0, rfl, by omega⟩

set_option maxRecDepth 100000 in
set_option maxHeartbeats 2000000 in
theorem cpu_drawn (n₀ B : Nat) (a : Option Addr) (len cap : Nat) (z : List Int) (s : Nat × Int) (w : World) (h : Drawn n₀ B a len cap z s w) :
    Calls Try.prog 46 #[.pointer (some ⟨B, 0, none⟩)] w (DrewCpu n₀ B a len cap z w) := by
  have hlt := h.lt
  have bx := BoxN.new w 28 #[.int .u8 0, .int .u8 0, .int .u8 0, .int .u8 0, .int .u16 0, .bool false, .bool false, .bool false, .bool false, .bool false, .bool false]
  have g0 := World.grownBy_alloc w (.cells #[.int .u8 0, .int .u8 0, .int .u8 0, .int .u8 0, .int .u16 0, .bool false, .bool false, .bool false, .bool false, .bool false, .bool false] 28) (some B)
  go_enter Try.func46, Try.ntmps46
  go_wp2_with fail
  refine (byte2_some n₀ B a len cap z s _ (h.alloc _)).mono ?_
  rintro e w1 ⟨x1, s1, x10, x11, rfl, hd1, hg1⟩
  have bx1 := bx.grown hg1 (by omega)
  have gg1 := grown_trans g0 hg1
  clear bx g0 hg1
  go_wp2_with fail
  refine (byte2_some n₀ B a len cap z s1 _ hd1).mono ?_
  rintro e w2 ⟨x2, s2, x20, x21, rfl, hd2, hg2⟩
  have bx2 := bx1.grown hg2 (by omega)
  have gg2 := grown_trans gg1 hg2
  clear bx1 gg1 hg2 hd1
  go_wp2_with fail
  refine (byte2_some n₀ B a len cap z s2 _ hd2).mono ?_
  rintro e w3 ⟨x3, s3, x30, x31, rfl, hd3, hg3⟩
  have bx3 := bx2.grown hg3 (by omega)
  have gg3 := grown_trans gg2 hg3
  clear bx2 gg2 hg3 hd2
  go_wp2_with fail
  have hcells := ints_cells w3 sL 3
  refine (pickInt_drawn n₀ B a len cap z s3 w3.heap.size 5 5 sL _ (hd3.alloc _) (by omega) (by omega) (by have := hd3.lt; omega) (by simp) (fun i hi => hcells i hi)).mono ?_
  rintro e w4 ⟨rfl, hd4, hg4⟩
  obtain ⟨Q, hQ, hQ2⟩ : ∃ Q : Nat, sL[(belowV z len s3 ((5 : Nat) : Int)).toNat]?.getD 0 = (Q : Int) ∧ Q < 256 := sL_bd _
  rw [hQ]
  have bx4 := ((bx3.below ((Below.refl _ _).alloc (Nat.le_refl _) _)).grown hg4 (by omega))
  have gg4 := grown_trans gg3 (grown_trans (World.grownBy_alloc w3 _ (some B)) hg4)
  generalize belowS len s3 ((5 : Nat) : Int) = s4 at hd4
  clear bx3 gg3 hg4 hd3 hcells hQ
  go_wp2_with fail
  refine (pc_drawn n₀ B a len cap z s4 _ hd4).mono ?_
  rintro e w5 ⟨P, s5, hP, rfl, hd5, hg5⟩
  have bx5 := bx4.grown hg5 (by omega)
  have gg5 := grown_trans gg4 hg5
  clear bx4 gg4 hg5 hd4
  go_wp2_with fail
  refine (flags2_drawn n₀ B a len cap z s5 _ hd5).mono ?_
  rintro e w6 ⟨n, v, d, i, zf, c, s6, rfl, hd6, hg6⟩
  have bx6 := bx5.grown hg6 (by omega)
  have gg6 := grown_trans gg5 hg6
  clear bx5 gg5 hg6 hd5
  obtain ⟨X1, rfl⟩ := Int.eq_ofNat_of_zero_le x10
  obtain ⟨X2, rfl⟩ := Int.eq_ofNat_of_zero_le x20
  obtain ⟨X3, rfl⟩ := Int.eq_ofNat_of_zero_le x30
  have q1 : X1 < 256 := by omega
  have q2 : X2 < 256 := by omega
  have q3 : X3 < 256 := by omega
  have f := fun k => bx6.frozen k
  have r0 := bx6.cell 0 _ rfl
  have r1 := bx6.cell 1 _ rfl
  have r2 := bx6.cell 2 _ rfl
  have r3 := bx6.cell 3 _ rfl
  have r4 := bx6.cell 4 _ rfl
  have r5 := bx6.cell 5 _ rfl
  have r6 := bx6.cell 6 _ rfl
  have r7 := bx6.cell 7 _ rfl
  have r8 := bx6.cell 8 _ rfl
  have r9 := bx6.cell 9 _ rfl
  have r10 := bx6.cell 10 _ rfl
  go_wp2
  refine bodyPost_ret (v := cpuV ⟨X1, X2, X3, Q, P, n, v, d, i, zf, c⟩) (by simp [results, Try.results46, go_sem, r0, r1, r2, r3, r4, r5, r6, r7, r8, r9, r10]) rfl ⟨⟨X1, X2, X3, Q, P, n, v, d, i, zf, c⟩, s6, ⟨q1, q2, q3, hQ2, hP⟩, rfl, ?_, ?_⟩
  · repeat (any_goals (first | (with_reducible exact hd6) | (with_reducible exact hlt) | (with_reducible refine Drawn.setCell ?_ ?_ _)))
  · repeat (any_goals (first | (with_reducible exact gg6) | (with_reducible exact Nat.le_refl _) | (with_reducible refine grown_setCell ?_ ?_ _)))

end Go.Proofs.Ytckfdbjjjgfbfaa
