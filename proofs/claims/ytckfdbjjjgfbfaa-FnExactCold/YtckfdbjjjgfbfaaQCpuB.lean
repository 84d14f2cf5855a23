/-
  Contracts over the law's own helpers for processors: a copy, and two that are alike.
-/
import Derived.Test.YtckfdbjjjgfbfaaQCpuNum
import Derived.Test.YtckfdbjjjgfbfaaQSpan
namespace Go.Proofs.Ytckfdbjjjgfbfaa
set_option linter.unusedVariables false
set_option linter.unusedSimpArgs false
open Go.RowKit

set_option maxRecDepth 100000 in
theorem toFlags_cpu (n v d i z c : Bool) (w : World) :
    Calls Try.prog 58 #[.agg #[.bool n, .bool v, .bool d, .bool i, .bool z, .bool c]] w fun e w' => e = .returned (.agg #[.bool n, .bool v, .bool d, .bool i, .bool z, .bool c]) ∧ Below w.heap.size w w' := by
  go_enter Try.func58, Try.ntmps58
  go_wp2
  exact bodyPost_ret (v := .agg #[.bool n, .bool v, .bool d, .bool i, .bool z, .bool c]) (by simp [results, Try.results58, go_sem]) rfl ⟨rfl, (((Below.refl _ _).alloc (Nat.le_refl _) _).alloc (by simp) _).alloc (by simp; omega) _⟩

set_option maxRecDepth 100000 in
theorem toCpu_any (c : CpuN) (w : World) :
    Calls Try.prog 38 #[cpuV c] w fun e w' => e = .returned (cpuV c) ∧ Below w.heap.size w w' := by
  obtain ⟨cA, cX, cY, cS, cP, cN, cV, cD, cI, cZ, cC⟩ := c
  go_enter Try.func38, Try.ntmps38
  go_wp2_with fail
  refine (toFlags_cpu _ _ _ _ _ _ _).mono ?_
  rintro e w1 ⟨rfl, d1⟩
  have p3 := (BoxN.new ((w.alloc (.cells (cpuCells ⟨cA, cX, cY, cS, cP, cN, cV, cD, cI, cZ, cC⟩) 48)).alloc (.cells #[.int .u8 0, .int .u8 0, .int .u8 0, .int .u8 0, .int .u16 0, .bool false, .bool false, .bool false, .bool false, .bool false, .bool false] 28)) 28 #[.int .u8 (cA : Int), .int .u8 (cX : Int), .int .u8 (cY : Int), .int .u8 (cS : Int), .int .u16 (cP : Int), .bool false, .bool false, .bool false, .bool false, .bool false, .bool false]).below d1
  have p2 := ((BoxN.new (w.alloc (.cells (cpuCells ⟨cA, cX, cY, cS, cP, cN, cV, cD, cI, cZ, cC⟩) 48)) 28 #[.int .u8 0, .int .u8 0, .int .u8 0, .int .u8 0, .int .u16 0, .bool false, .bool false, .bool false, .bool false, .bool false, .bool false]).below ((Below.refl _ _).alloc (Nat.le_refl _) (.cells #[.int .u8 (cA : Int), .int .u8 (cX : Int), .int .u8 (cY : Int), .int .u8 (cS : Int), .int .u16 (cP : Int), .bool false, .bool false, .bool false, .bool false, .bool false, .bool false] 28))).below d1
  rw [World.size_alloc, World.size_alloc] at p3
  rw [World.size_alloc] at p2
  have b1 := bstep ((((Below.refl _ w).alloc (Nat.le_refl _) _).alloc (by simp) _).alloc (by simp; omega) _) d1
  clear d1
  have q3_0 := p3.cell 0 _ rfl
  have q2_0 := p2.cell 0 _ rfl
  have q3_1 := p3.cell 1 _ rfl
  have q2_1 := p2.cell 1 _ rfl
  have q3_2 := p3.cell 2 _ rfl
  have q2_2 := p2.cell 2 _ rfl
  have q3_3 := p3.cell 3 _ rfl
  have q2_3 := p2.cell 3 _ rfl
  have q3_4 := p3.cell 4 _ rfl
  have q2_4 := p2.cell 4 _ rfl
  have q3_5 := p3.cell 5 _ rfl
  have q2_5 := p2.cell 5 _ rfl
  have q3_6 := p3.cell 6 _ rfl
  have q2_6 := p2.cell 6 _ rfl
  have q3_7 := p3.cell 7 _ rfl
  have q2_7 := p2.cell 7 _ rfl
  have q3_8 := p3.cell 8 _ rfl
  have q2_8 := p2.cell 8 _ rfl
  have q3_9 := p3.cell 9 _ rfl
  have q2_9 := p2.cell 9 _ rfl
  have q3_10 := p3.cell 10 _ rfl
  have q2_10 := p2.cell 10 _ rfl
  have f3 := fun k => p3.frozen k
  have f2 := fun k => p2.frozen k
  go_wp2
  refine bodyPost_ret (v := cpuV ⟨cA, cX, cY, cS, cP, cN, cV, cD, cI, cZ, cC⟩) (by simp [results, Try.results38, go_sem, q2_0, q2_1, q2_2, q2_3, q2_4, q2_5, q2_6, q2_7, q2_8, q2_9, q2_10]) rfl ⟨rfl, ?_⟩
  repeat (any_goals (first | (with_reducible exact b1) | (with_reducible refine Below.setCell ?_ ?_ _)))
  all_goals (first | (simp; done) | (simp; omega))

set_option maxRecDepth 100000 in
theorem eqFlags_any (n v d i z c : Bool) (w : World) :
    Calls Try.prog 32 #[.agg #[.bool n, .bool v, .bool d, .bool i, .bool z, .bool c], .agg #[.bool n, .bool v, .bool d, .bool i, .bool z, .bool c]] w fun e w' => e = .returned (.bool true) ∧ Below w.heap.size w w' := by
  go_enter Try.func32, Try.ntmps32
  go_wp2
  go_ret
  exact ⟨rfl, ((Below.refl _ _).alloc (Nat.le_refl _) _).alloc (by simp) _⟩

set_option maxRecDepth 100000 in
theorem eqCpu_any (c : CpuN) (w : World) :
    Calls Try.prog 13 #[cpuV c, cpuV c] w fun e w' => e = .returned (.bool true) ∧ Below w.heap.size w w' := by
  obtain ⟨cA, cX, cY, cS, cP, cN, cV, cD, cI, cZ, cC⟩ := c
  have b0 : Below w.heap.size w ((w.alloc (.cells (cpuCells ⟨cA, cX, cY, cS, cP, cN, cV, cD, cI, cZ, cC⟩) 28)).alloc (.cells (cpuCells ⟨cA, cX, cY, cS, cP, cN, cV, cD, cI, cZ, cC⟩) 28)) := ((Below.refl _ _).alloc (Nat.le_refl _) _).alloc (by simp) _
  go_enter Try.func13, Try.ntmps13
  go_wp2_with fail
  refine (eqFlags_any _ _ _ _ _ _ _).mono ?_
  rintro e w1 ⟨rfl, d1⟩
  have b1 := bstep b0 d1
  go_wp2
  go_ret
  exact ⟨rfl, b1⟩

end Go.Proofs.Ytckfdbjjjgfbfaa
