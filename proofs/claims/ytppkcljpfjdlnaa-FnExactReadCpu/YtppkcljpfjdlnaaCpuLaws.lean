/-
  The exact laws of processors' texts, walked over any program whose functions keep these contracts.
-/
import Derived.Test.YtppkcljpfjdlnaaCpuB
import Derived.Test.YtppkcljpfjdlnaaCpuC
namespace Go.Proofs.Ytppkcljpfjdlnaa
set_option linter.unusedVariables false
set_option linter.unusedSimpArgs false
open Go.RowKit

def ImplCpuText : Prop := ∀ (c : CpuN) (w : World), c.ok → Calls Try.prog 25 #[cpuV c] w fun e w' => e = .returned (.string (cpuS c)) ∧ Below w.heap.size w w'

def ImplReadCpu : Prop := ∀ (s : ByteArray) (w : World), s.size ≤ 1048576 → Calls Try.prog 24 #[.string s] w fun e w' => e = .returned (.tuple #[cpuV ((readCpu s).getD cpu0), .bool (readCpu s).isSome]) ∧ Below w.heap.size w w'

set_option maxRecDepth 100000 in
theorem walkCpuText (HI : ImplCpuText) (c : CpuN) (hc : c.ok) (w : World) :
    Calls Try.prog 12 #[cpuV c] w fun e w' => e = .returned (.bool true) ∧ Below w.heap.size w w' := by
  obtain ⟨T, hT⟩ : ∃ T, cpuS c = T := ⟨_, rfl⟩
  have CS := fun w => specCpuText_any c hc w
  have CI := fun w => HI c w hc
  have CT := fun w => toCpu_any c w
  rw [hT] at CS CI
  clear hT hc
  obtain ⟨cA, cX, cY, cS, cP, cN, cV, cD, cI, cZ, cC⟩ := c
  have b0 : Below w.heap.size w (w.alloc (.cells (cpuCells ⟨cA, cX, cY, cS, cP, cN, cV, cD, cI, cZ, cC⟩) 60)) := (Below.refl _ _).alloc (Nat.le_refl _) _
  have p0 : BoxN (w.alloc (.cells (cpuCells ⟨cA, cX, cY, cS, cP, cN, cV, cD, cI, cZ, cC⟩) 60)) w.heap.size 60 (cpuCells ⟨cA, cX, cY, cS, cP, cN, cV, cD, cI, cZ, cC⟩) := BoxN.new _ _ _
  go_enter Try.func12, Try.ntmps12
  go_wp2_with fail
  refine (CT _).mono ?_
  rintro e w1 ⟨rfl, d1⟩
  go_wp2_with fail
  refine (CS _).mono ?_
  rintro e w2 ⟨rfl, d2⟩
  have b2 := bstep (bstep b0 d1) d2
  have p2 := (p0.below d1).below d2
  clear p0 d1 d2 b0
  have c0 := p2.cell 0 _ rfl
  have c1 := p2.cell 1 _ rfl
  have c2 := p2.cell 2 _ rfl
  have c3 := p2.cell 3 _ rfl
  have c4 := p2.cell 4 _ rfl
  have c5 := p2.cell 5 _ rfl
  have c6 := p2.cell 6 _ rfl
  have c7 := p2.cell 7 _ rfl
  have c8 := p2.cell 8 _ rfl
  have c9 := p2.cell 9 _ rfl
  have c10 := p2.cell 10 _ rfl
  go_wp2_with fail
  refine (CT _).mono ?_
  rintro e w3 ⟨rfl, d3⟩
  go_wp2_with fail
  refine (CI _).mono ?_
  rintro e w4 ⟨rfl, d4⟩
  have b4 := bstep (bstep b2 d3) d4
  go_wp2
  go_ret
  exact ⟨rfl, b4⟩

set_option maxRecDepth 100000 in
theorem walkReadCpu (HI : ImplReadCpu) (s : ByteArray) (hs : s.size ≤ 1048576) (w : World) :
    Calls Try.prog 13 #[.string s] w fun e w' => e = .returned (.bool true) ∧ Below w.heap.size w w' := by
  have hbig : ¬ (1048576 : Int) < (s.size : Int) := by omega
  obtain ⟨c, hc⟩ : ∃ c, (readCpu s).getD cpu0 = c := ⟨_, rfl⟩
  obtain ⟨k, hk⟩ : ∃ k, (readCpu s).isSome = k := ⟨_, rfl⟩
  have CS := fun w => specReadCpu_any s hs w
  have CI := fun w => HI s w hs
  rw [hc, hk] at CS CI
  clear hc hk
  have CE := fun w => eqCpu_any c w
  obtain ⟨cA, cX, cY, cS, cP, cN, cV, cD, cI, cZ, cC⟩ := c
  go_enter Try.func13, Try.ntmps13
  go_wp2_with fail
  refine (CS _).mono ?_
  rintro e w1 ⟨rfl, d1⟩
  have d2 : Below w1.heap.size w1 (w1.alloc (.cells (cpuCells ⟨cA, cX, cY, cS, cP, cN, cV, cD, cI, cZ, cC⟩) 39)) := (Below.refl _ _).alloc (Nat.le_refl _) _
  have p2 : BoxN (w1.alloc (.cells (cpuCells ⟨cA, cX, cY, cS, cP, cN, cV, cD, cI, cZ, cC⟩) 39)) w1.heap.size 39 (cpuCells ⟨cA, cX, cY, cS, cP, cN, cV, cD, cI, cZ, cC⟩) := BoxN.new _ _ _
  have b2 := bstep d1 d2
  clear d1 d2
  go_wp2_with fail
  refine (CI _).mono ?_
  rintro e w3 ⟨rfl, d3⟩
  have b3 := bstep b2 d3
  have p3 := p2.below d3
  have d4 : Below w3.heap.size w3 (w3.alloc (.cells (cpuCells ⟨cA, cX, cY, cS, cP, cN, cV, cD, cI, cZ, cC⟩) 39)) := (Below.refl _ _).alloc (Nat.le_refl _) _
  have p4 := p3.below d4
  have b4 := bstep b3 d4
  clear d3 d4 b2 b3 p2 p3
  have c0 := p4.cell 0 _ rfl
  have c1 := p4.cell 1 _ rfl
  have c2 := p4.cell 2 _ rfl
  have c3 := p4.cell 3 _ rfl
  have c4 := p4.cell 4 _ rfl
  have c5 := p4.cell 5 _ rfl
  have c6 := p4.cell 6 _ rfl
  have c7 := p4.cell 7 _ rfl
  have c8 := p4.cell 8 _ rfl
  have c9 := p4.cell 9 _ rfl
  have c10 := p4.cell 10 _ rfl
  go_wp2_with fail
  refine (CE _).mono ?_
  rintro e w5 ⟨rfl, d5⟩
  have b5 := bstep b4 d5
  go_wp2
  go_ret
  exact ⟨rfl, b5⟩

end Go.Proofs.Ytppkcljpfjdlnaa
