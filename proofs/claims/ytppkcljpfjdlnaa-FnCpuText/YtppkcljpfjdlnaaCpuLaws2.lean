/-
  The law of processors' texts (FnCpuText), walked over any program whose functions keep their contracts.
-/
import Derived.Test.YtppkcljpfjdlnaaCpuLaws
import Derived.Test.YtppkcljpfjdlnaaCpuBack
import Derived.Test.YtppkcljpfjdlnaaDrawCpu
import Derived.Test.YtppkcljpfjdlnaaCodesLaw
namespace Go.Proofs.Ytppkcljpfjdlnaa
set_option linter.unusedVariables false
set_option linter.unusedSimpArgs false
open Go.RowKit

set_option maxRecDepth 100000 in
set_option maxHeartbeats 1000000 in
theorem walkFnCpuText (HT : ImplCpuText) (HR : ImplReadCpu) (a : Option Addr) (len cap : Nat) (z : List Int) (w : World) (hc : CodeRow w.heap.size w a len z) (hl : len ≤ 1048576) :
    Calls Try.prog 5 #[.slice a len cap] w fun e w' => e = .returned (.bool true) ∧ Below w.heap.size w w' := by
  have hbig : decide ((1048576 : Int) < len) = false := by simp; omega
  go_enter Try.func5, Try.ntmps5
  go_wp2_with fail
  refine (bigCode_any _ _ _ _).mono ?_
  rintro e w' ⟨rfl, rfl⟩
  rw [hbig]
  clear hbig
  go_wp2_with fail
  refine (drawCpuText_any w.heap.size a len cap z w hc (Nat.le_refl _)).mono ?_
  rintro e w1 ⟨c, hok, rfl, d1⟩
  obtain ⟨T, hT⟩ : ∃ T, cpuS c = T := ⟨_, rfl⟩
  have CT := fun w => HT c w hok
  have CR := fun w => HR (cpuS c) w (by rw [cpuS_size]; omega)
  rw [readCpu_back c hok, hT] at CR
  rw [hT] at CT
  clear hT hok
  obtain ⟨cA, cX, cY, cS, cP, cN, cV, cD, cI, cZ, cC⟩ := c
  have d2 : Below w1.heap.size w1 (w1.alloc (.cells (cpuCells ⟨cA, cX, cY, cS, cP, cN, cV, cD, cI, cZ, cC⟩) 39)) := (Below.refl _ _).alloc (Nat.le_refl _) _
  have p2 : BoxN (w1.alloc (.cells (cpuCells ⟨cA, cX, cY, cS, cP, cN, cV, cD, cI, cZ, cC⟩) 39)) w1.heap.size 39 (cpuCells ⟨cA, cX, cY, cS, cP, cN, cV, cD, cI, cZ, cC⟩) := BoxN.new _ _ _
  have b2 := bstep d1 d2
  clear d1 d2
  go_wp2_with fail
  refine (CT _).mono ?_
  rintro e w3 ⟨rfl, d3⟩
  go_wp2_with fail
  refine (CR _).mono ?_
  rintro e w4 ⟨rfl, d4⟩
  have b4 := bstep (bstep b2 d3) d4
  have d5 : Below w4.heap.size w4 (w4.alloc (.cells (cpuCells ⟨cA, cX, cY, cS, cP, cN, cV, cD, cI, cZ, cC⟩) 39)) := (Below.refl _ _).alloc (Nat.le_refl _) _
  have p5 := ((p2.below d3).below d4).below d5
  have b5 := bstep b4 d5
  clear d3 d4 d5 b2 b4 p2
  have c0 := p5.cell 0 _ rfl
  have c1 := p5.cell 1 _ rfl
  have c2 := p5.cell 2 _ rfl
  have c3 := p5.cell 3 _ rfl
  have c4 := p5.cell 4 _ rfl
  have c5 := p5.cell 5 _ rfl
  have c6 := p5.cell 6 _ rfl
  have c7 := p5.cell 7 _ rfl
  have c8 := p5.cell 8 _ rfl
  have c9 := p5.cell 9 _ rfl
  have c10 := p5.cell 10 _ rfl
  go_wp2
  go_ret
  exact ⟨rfl, b5⟩

end Go.Proofs.Ytppkcljpfjdlnaa
