/-
  The program's processors and their texts keep their contracts: CpuText and ReadCpu.
-/
import Derived.Test.YtppkcljpfjdlnaaCpuM
import Derived.Test.YtppkcljpfjdlnaaCpuLaws
namespace Go.Proofs.Ytppkcljpfjdlnaa
set_option linter.unusedVariables false
set_option linter.unusedSimpArgs false
open Go.RowKit

theorem implCpuText : ImplCpuText := fun c w hc => implCpuText_any c hc w

theorem restS_le (s : ByteArray) : (restS s).size ≤ s.size := cutB_le s 32

set_option maxRecDepth 100000 in
set_option maxHeartbeats 4000000 in
theorem implReadCpu_by (s : ByteArray) (hs : s.size ≤ 1048576) (T : ByteArray) (hT : cpuS (readerCpu s) = T) (R : CpuN) (k : Bool) (HY : Hid (T = s → R = readerCpu s ∧ k = true)) (HN : Hid (T ≠ s → R = cpu0 ∧ k = false)) (w : World) :
    Calls Try.prog 24 #[.string s] w fun e w' => e = .returned (.tuple #[cpuV R, .bool k]) ∧ Below w.heap.size w w' := by
  have HC := fun w => implCpuT_any (readerCpu s) (readerCpu_ok s) w
  rw [hT] at HC
  clear hT
  have q1 := Nat.le_trans (restS_le s) hs
  have q2 := Nat.le_trans (restS_le (restS s)) q1
  have q3 := Nat.le_trans (restS_le (restS (restS s))) q2
  have q4 := Nat.le_trans (restS_le (restS (restS (restS s)))) q3
  unfold readerCpu at HC HY
  have HB0 := fun B cs w => nextByte_any B cs s hs w
  have HB1 := fun B cs w => nextByte_any B cs (restS s) q1 w
  have HB2 := fun B cs w => nextByte_any B cs (restS (restS s)) q2 w
  have HB3 := fun B cs w => nextByte_any B cs (restS (restS (restS s))) q3 w
  have HB4 := fun B cs w => nextWord_any B cs (restS (restS (restS (restS s)))) q4 w
  have HB5 := fun B cs w => lastFlags_any B cs (restS (restS (restS (restS (restS s))))) w
  have l0 := byteS_lt s
  have l1 := byteS_lt (restS s)
  have l2 := byteS_lt (restS (restS s))
  have l3 := byteS_lt (restS (restS (restS s)))
  have l4 := wordS_lt (restS (restS (restS (restS s))))
  generalize byteS s = x0 at HC HB0 l0 HY
  generalize byteS (restS s) = x1 at HC HB1 l1 HY
  generalize byteS (restS (restS s)) = x2 at HC HB2 l2 HY
  generalize byteS (restS (restS (restS s))) = x3 at HC HB3 l3 HY
  generalize wordS (restS (restS (restS (restS s)))) = x4 at HC HB4 l4 HY
  generalize restS (restS (restS (restS (restS s)))) = s5 at HC HB4 HB5 HY
  generalize restS (restS (restS (restS s))) = s4 at HB3 HB4 q4
  generalize restS (restS (restS s)) = s3 at HB2 HB3 q3
  generalize restS (restS s) = s2 at HB1 HB2 q2
  generalize restS s = s1 at HB0 HB1 q1
  generalize hasS s5 78 = fN at HC HB5 HY
  generalize hasS s5 86 = fV at HC HB5 HY
  generalize hasS s5 68 = fD at HC HB5 HY
  generalize hasS s5 73 = fI at HC HB5 HY
  generalize hasS s5 90 = fZ at HC HB5 HY
  generalize hasS s5 67 = fC at HC HB5 HY
  clear q1 q2 q3 q4
  have p2 := (BoxN.new w 39 #[.int .u8 0, .int .u8 0, .int .u8 0, .int .u8 0, .int .u16 0, .bool false, .bool false, .bool false, .bool false, .bool false, .bool false]).below ((Below.refl _ _).alloc (Nat.le_refl _) (.cells #[.int .u8 0, .int .u8 0, .int .u8 0, .int .u8 0, .int .u16 0, .bool false, .bool false, .bool false, .bool false, .bool false, .bool false, .string s] 77))
  have p4 := BoxN.new (w.alloc (.cells #[.int .u8 0, .int .u8 0, .int .u8 0, .int .u8 0, .int .u16 0, .bool false, .bool false, .bool false, .bool false, .bool false, .bool false] 39)) 77 #[.int .u8 0, .int .u8 0, .int .u8 0, .int .u8 0, .int .u16 0, .bool false, .bool false, .bool false, .bool false, .bool false, .bool false, .string s]
  rw [World.size_alloc] at p4
  have b0 : Below w.heap.size w ((w.alloc (.cells #[.int .u8 0, .int .u8 0, .int .u8 0, .int .u8 0, .int .u16 0, .bool false, .bool false, .bool false, .bool false, .bool false, .bool false] 39)).alloc (.cells #[.int .u8 0, .int .u8 0, .int .u8 0, .int .u8 0, .int .u16 0, .bool false, .bool false, .bool false, .bool false, .bool false, .bool false, .string s] 77)) := ((Below.refl _ _).alloc (Nat.le_refl _) _).alloc (by simp) _
  go_enter Try.func24, Try.ntmps24
  go_wp2_with fail
  refine (HB0 (w.heap.size + 1) _ _ p4 rfl).mono ?_
  rintro e w1 ⟨rfl, r4, sp⟩
  have r4' : BoxN w1 (w.heap.size + 1) 77 #[.int .u8 0, .int .u8 0, .int .u8 0, .int .u8 0, .int .u16 0, .bool false, .bool false, .bool false, .bool false, .bool false, .bool false, .string s1] := r4
  have r2 := p2.span sp (by omega)
  have b1 := b0.trans (sp.below (by omega) (by have := p2.lt; omega))
  clear r4 sp p4 p2 b0 HB0
  have g0 := r4'.cell 0 _ rfl
  have f0 := r4'.frozen 0
  have p4 : BoxN (w1.setCell ⟨w.heap.size + 1, 0, none⟩ (.int .u8 (x0 : Int))) (w.heap.size + 1) 77 #[.int .u8 (x0 : Int), .int .u8 0, .int .u8 0, .int .u8 0, .int .u16 0, .bool false, .bool false, .bool false, .bool false, .bool false, .bool false, .string s1] := r4'.set 0 (.int .u8 (x0 : Int))
  have p2 := r2.span (Span.set w1 (w.heap.size + 1) 0 (.int .u8 (x0 : Int))) (by omega)
  have b0 : Below w.heap.size w (w1.setCell ⟨w.heap.size + 1, 0, none⟩ (.int .u8 (x0 : Int))) := b1.setCell (by simp) _
  clear r4' r2 b1
  go_wp2_with fail
  clear g0 f0
  refine (HB1 (w.heap.size + 1) _ _ p4 rfl).mono ?_
  rintro e w2 ⟨rfl, r4, sp⟩
  have r4' : BoxN w2 (w.heap.size + 1) 77 #[.int .u8 (x0 : Int), .int .u8 0, .int .u8 0, .int .u8 0, .int .u16 0, .bool false, .bool false, .bool false, .bool false, .bool false, .bool false, .string s2] := r4
  have r2 := p2.span sp (by omega)
  have b1 := b0.trans (sp.below (by omega) (by have := p2.lt; omega))
  clear r4 sp p4 p2 b0 HB1
  have g1 := r4'.cell 1 _ rfl
  have f1 := r4'.frozen 1
  have p4 : BoxN (w2.setCell ⟨w.heap.size + 1, 1, none⟩ (.int .u8 (x1 : Int))) (w.heap.size + 1) 77 #[.int .u8 (x0 : Int), .int .u8 (x1 : Int), .int .u8 0, .int .u8 0, .int .u16 0, .bool false, .bool false, .bool false, .bool false, .bool false, .bool false, .string s2] := r4'.set 1 (.int .u8 (x1 : Int))
  have p2 := r2.span (Span.set w2 (w.heap.size + 1) 1 (.int .u8 (x1 : Int))) (by omega)
  have b0 : Below w.heap.size w (w2.setCell ⟨w.heap.size + 1, 1, none⟩ (.int .u8 (x1 : Int))) := b1.setCell (by simp) _
  clear r4' r2 b1
  go_wp2_with fail
  clear g1 f1
  refine (HB2 (w.heap.size + 1) _ _ p4 rfl).mono ?_
  rintro e w3 ⟨rfl, r4, sp⟩
  have r4' : BoxN w3 (w.heap.size + 1) 77 #[.int .u8 (x0 : Int), .int .u8 (x1 : Int), .int .u8 0, .int .u8 0, .int .u16 0, .bool false, .bool false, .bool false, .bool false, .bool false, .bool false, .string s3] := r4
  have r2 := p2.span sp (by omega)
  have b1 := b0.trans (sp.below (by omega) (by have := p2.lt; omega))
  clear r4 sp p4 p2 b0 HB2
  have g2 := r4'.cell 2 _ rfl
  have f2 := r4'.frozen 2
  have p4 : BoxN (w3.setCell ⟨w.heap.size + 1, 2, none⟩ (.int .u8 (x2 : Int))) (w.heap.size + 1) 77 #[.int .u8 (x0 : Int), .int .u8 (x1 : Int), .int .u8 (x2 : Int), .int .u8 0, .int .u16 0, .bool false, .bool false, .bool false, .bool false, .bool false, .bool false, .string s3] := r4'.set 2 (.int .u8 (x2 : Int))
  have p2 := r2.span (Span.set w3 (w.heap.size + 1) 2 (.int .u8 (x2 : Int))) (by omega)
  have b0 : Below w.heap.size w (w3.setCell ⟨w.heap.size + 1, 2, none⟩ (.int .u8 (x2 : Int))) := b1.setCell (by simp) _
  clear r4' r2 b1
  go_wp2_with fail
  clear g2 f2
  refine (HB3 (w.heap.size + 1) _ _ p4 rfl).mono ?_
  rintro e w4 ⟨rfl, r4, sp⟩
  have r4' : BoxN w4 (w.heap.size + 1) 77 #[.int .u8 (x0 : Int), .int .u8 (x1 : Int), .int .u8 (x2 : Int), .int .u8 0, .int .u16 0, .bool false, .bool false, .bool false, .bool false, .bool false, .bool false, .string s4] := r4
  have r2 := p2.span sp (by omega)
  have b1 := b0.trans (sp.below (by omega) (by have := p2.lt; omega))
  clear r4 sp p4 p2 b0 HB3
  have g3 := r4'.cell 3 _ rfl
  have f3 := r4'.frozen 3
  have p4 : BoxN (w4.setCell ⟨w.heap.size + 1, 3, none⟩ (.int .u8 (x3 : Int))) (w.heap.size + 1) 77 #[.int .u8 (x0 : Int), .int .u8 (x1 : Int), .int .u8 (x2 : Int), .int .u8 (x3 : Int), .int .u16 0, .bool false, .bool false, .bool false, .bool false, .bool false, .bool false, .string s4] := r4'.set 3 (.int .u8 (x3 : Int))
  have p2 := r2.span (Span.set w4 (w.heap.size + 1) 3 (.int .u8 (x3 : Int))) (by omega)
  have b0 : Below w.heap.size w (w4.setCell ⟨w.heap.size + 1, 3, none⟩ (.int .u8 (x3 : Int))) := b1.setCell (by simp) _
  clear r4' r2 b1
  go_wp2_with fail
  clear g3 f3
  refine (HB4 (w.heap.size + 1) _ _ p4 rfl).mono ?_
  rintro e w5 ⟨rfl, r4, sp⟩
  have r4' : BoxN w5 (w.heap.size + 1) 77 #[.int .u8 (x0 : Int), .int .u8 (x1 : Int), .int .u8 (x2 : Int), .int .u8 (x3 : Int), .int .u16 0, .bool false, .bool false, .bool false, .bool false, .bool false, .bool false, .string s5] := r4
  have r2 := p2.span sp (by omega)
  have b1 := b0.trans (sp.below (by omega) (by have := p2.lt; omega))
  clear r4 sp p4 p2 b0 HB4
  have g4 := r4'.cell 4 _ rfl
  have f4 := r4'.frozen 4
  have p4 : BoxN (w5.setCell ⟨w.heap.size + 1, 4, none⟩ (.int .u16 (x4 : Int))) (w.heap.size + 1) 77 #[.int .u8 (x0 : Int), .int .u8 (x1 : Int), .int .u8 (x2 : Int), .int .u8 (x3 : Int), .int .u16 (x4 : Int), .bool false, .bool false, .bool false, .bool false, .bool false, .bool false, .string s5] := r4'.set 4 (.int .u16 (x4 : Int))
  have p2 := r2.span (Span.set w5 (w.heap.size + 1) 4 (.int .u16 (x4 : Int))) (by omega)
  have b0 : Below w.heap.size w (w5.setCell ⟨w.heap.size + 1, 4, none⟩ (.int .u16 (x4 : Int))) := b1.setCell (by simp) _
  clear r4' r2 b1
  go_wp2_with fail
  clear g4 f4
  refine (HB5 (w.heap.size + 1) _ _ p4 rfl).mono ?_
  rintro e w6 ⟨rfl, d6⟩
  have r4 := p4.below d6
  have r2 := p2.below d6
  have b1 := bstep b0 d6
  clear p4 p2 b0 d6 HB5
  have g5 := r4.cell 5 _ rfl
  have f5 := r4.frozen 5
  have g6 := r4.cell 6 _ rfl
  have f6 := r4.frozen 6
  have g7 := r4.cell 7 _ rfl
  have f7 := r4.frozen 7
  have g8 := r4.cell 8 _ rfl
  have f8 := r4.frozen 8
  have g9 := r4.cell 9 _ rfl
  have f9 := r4.frozen 9
  have g10 := r4.cell 10 _ rfl
  have f10 := r4.frozen 10
  have r4 : BoxN (w6.setCell ⟨w.heap.size + 1, 5, none⟩ (.bool fN)) (w.heap.size + 1) 77 #[.int .u8 (x0 : Int), .int .u8 (x1 : Int), .int .u8 (x2 : Int), .int .u8 (x3 : Int), .int .u16 (x4 : Int), .bool fN, .bool false, .bool false, .bool false, .bool false, .bool false, .string s5] := r4.set 5 (.bool fN)
  have r2 := r2.span (Span.set w6 (w.heap.size + 1) 5 (.bool fN)) (by omega)
  have b1 : Below w.heap.size w (w6.setCell ⟨w.heap.size + 1, 5, none⟩ (.bool fN)) := b1.setCell (by simp) _
  have r4 : BoxN ((w6.setCell ⟨w.heap.size + 1, 5, none⟩ (.bool fN)).setCell ⟨w.heap.size + 1, 6, none⟩ (.bool fV)) (w.heap.size + 1) 77 #[.int .u8 (x0 : Int), .int .u8 (x1 : Int), .int .u8 (x2 : Int), .int .u8 (x3 : Int), .int .u16 (x4 : Int), .bool fN, .bool fV, .bool false, .bool false, .bool false, .bool false, .string s5] := r4.set 6 (.bool fV)
  have r2 := r2.span (Span.set (w6.setCell ⟨w.heap.size + 1, 5, none⟩ (.bool fN)) (w.heap.size + 1) 6 (.bool fV)) (by omega)
  have b1 : Below w.heap.size w ((w6.setCell ⟨w.heap.size + 1, 5, none⟩ (.bool fN)).setCell ⟨w.heap.size + 1, 6, none⟩ (.bool fV)) := b1.setCell (by simp) _
  have r4 : BoxN (((w6.setCell ⟨w.heap.size + 1, 5, none⟩ (.bool fN)).setCell ⟨w.heap.size + 1, 6, none⟩ (.bool fV)).setCell ⟨w.heap.size + 1, 7, none⟩ (.bool fD)) (w.heap.size + 1) 77 #[.int .u8 (x0 : Int), .int .u8 (x1 : Int), .int .u8 (x2 : Int), .int .u8 (x3 : Int), .int .u16 (x4 : Int), .bool fN, .bool fV, .bool fD, .bool false, .bool false, .bool false, .string s5] := r4.set 7 (.bool fD)
  have r2 := r2.span (Span.set ((w6.setCell ⟨w.heap.size + 1, 5, none⟩ (.bool fN)).setCell ⟨w.heap.size + 1, 6, none⟩ (.bool fV)) (w.heap.size + 1) 7 (.bool fD)) (by omega)
  have b1 : Below w.heap.size w (((w6.setCell ⟨w.heap.size + 1, 5, none⟩ (.bool fN)).setCell ⟨w.heap.size + 1, 6, none⟩ (.bool fV)).setCell ⟨w.heap.size + 1, 7, none⟩ (.bool fD)) := b1.setCell (by simp) _
  have r4 : BoxN ((((w6.setCell ⟨w.heap.size + 1, 5, none⟩ (.bool fN)).setCell ⟨w.heap.size + 1, 6, none⟩ (.bool fV)).setCell ⟨w.heap.size + 1, 7, none⟩ (.bool fD)).setCell ⟨w.heap.size + 1, 8, none⟩ (.bool fI)) (w.heap.size + 1) 77 #[.int .u8 (x0 : Int), .int .u8 (x1 : Int), .int .u8 (x2 : Int), .int .u8 (x3 : Int), .int .u16 (x4 : Int), .bool fN, .bool fV, .bool fD, .bool fI, .bool false, .bool false, .string s5] := r4.set 8 (.bool fI)
  have r2 := r2.span (Span.set (((w6.setCell ⟨w.heap.size + 1, 5, none⟩ (.bool fN)).setCell ⟨w.heap.size + 1, 6, none⟩ (.bool fV)).setCell ⟨w.heap.size + 1, 7, none⟩ (.bool fD)) (w.heap.size + 1) 8 (.bool fI)) (by omega)
  have b1 : Below w.heap.size w ((((w6.setCell ⟨w.heap.size + 1, 5, none⟩ (.bool fN)).setCell ⟨w.heap.size + 1, 6, none⟩ (.bool fV)).setCell ⟨w.heap.size + 1, 7, none⟩ (.bool fD)).setCell ⟨w.heap.size + 1, 8, none⟩ (.bool fI)) := b1.setCell (by simp) _
  have r4 : BoxN (((((w6.setCell ⟨w.heap.size + 1, 5, none⟩ (.bool fN)).setCell ⟨w.heap.size + 1, 6, none⟩ (.bool fV)).setCell ⟨w.heap.size + 1, 7, none⟩ (.bool fD)).setCell ⟨w.heap.size + 1, 8, none⟩ (.bool fI)).setCell ⟨w.heap.size + 1, 9, none⟩ (.bool fZ)) (w.heap.size + 1) 77 #[.int .u8 (x0 : Int), .int .u8 (x1 : Int), .int .u8 (x2 : Int), .int .u8 (x3 : Int), .int .u16 (x4 : Int), .bool fN, .bool fV, .bool fD, .bool fI, .bool fZ, .bool false, .string s5] := r4.set 9 (.bool fZ)
  have r2 := r2.span (Span.set ((((w6.setCell ⟨w.heap.size + 1, 5, none⟩ (.bool fN)).setCell ⟨w.heap.size + 1, 6, none⟩ (.bool fV)).setCell ⟨w.heap.size + 1, 7, none⟩ (.bool fD)).setCell ⟨w.heap.size + 1, 8, none⟩ (.bool fI)) (w.heap.size + 1) 9 (.bool fZ)) (by omega)
  have b1 : Below w.heap.size w (((((w6.setCell ⟨w.heap.size + 1, 5, none⟩ (.bool fN)).setCell ⟨w.heap.size + 1, 6, none⟩ (.bool fV)).setCell ⟨w.heap.size + 1, 7, none⟩ (.bool fD)).setCell ⟨w.heap.size + 1, 8, none⟩ (.bool fI)).setCell ⟨w.heap.size + 1, 9, none⟩ (.bool fZ)) := b1.setCell (by simp) _
  have r4 : BoxN ((((((w6.setCell ⟨w.heap.size + 1, 5, none⟩ (.bool fN)).setCell ⟨w.heap.size + 1, 6, none⟩ (.bool fV)).setCell ⟨w.heap.size + 1, 7, none⟩ (.bool fD)).setCell ⟨w.heap.size + 1, 8, none⟩ (.bool fI)).setCell ⟨w.heap.size + 1, 9, none⟩ (.bool fZ)).setCell ⟨w.heap.size + 1, 10, none⟩ (.bool fC)) (w.heap.size + 1) 77 #[.int .u8 (x0 : Int), .int .u8 (x1 : Int), .int .u8 (x2 : Int), .int .u8 (x3 : Int), .int .u16 (x4 : Int), .bool fN, .bool fV, .bool fD, .bool fI, .bool fZ, .bool fC, .string s5] := r4.set 10 (.bool fC)
  have r2 := r2.span (Span.set (((((w6.setCell ⟨w.heap.size + 1, 5, none⟩ (.bool fN)).setCell ⟨w.heap.size + 1, 6, none⟩ (.bool fV)).setCell ⟨w.heap.size + 1, 7, none⟩ (.bool fD)).setCell ⟨w.heap.size + 1, 8, none⟩ (.bool fI)).setCell ⟨w.heap.size + 1, 9, none⟩ (.bool fZ)) (w.heap.size + 1) 10 (.bool fC)) (by omega)
  have b1 : Below w.heap.size w ((((((w6.setCell ⟨w.heap.size + 1, 5, none⟩ (.bool fN)).setCell ⟨w.heap.size + 1, 6, none⟩ (.bool fV)).setCell ⟨w.heap.size + 1, 7, none⟩ (.bool fD)).setCell ⟨w.heap.size + 1, 8, none⟩ (.bool fI)).setCell ⟨w.heap.size + 1, 9, none⟩ (.bool fZ)).setCell ⟨w.heap.size + 1, 10, none⟩ (.bool fC)) := b1.setCell (by simp) _
  have R4 := Lib.hid r4
  have R2 := Lib.hid r2
  have B1 := Lib.hid b1
  have k0 := r4.cell 0 _ rfl
  have k1 := r4.cell 1 _ rfl
  have k2 := r4.cell 2 _ rfl
  have k3 := r4.cell 3 _ rfl
  have k4 := r4.cell 4 _ rfl
  have k5 := r4.cell 5 _ rfl
  have k6 := r4.cell 6 _ rfl
  have k7 := r4.cell 7 _ rfl
  have k8 := r4.cell 8 _ rfl
  have k9 := r4.cell 9 _ rfl
  have k10 := r4.cell 10 _ rfl
  clear r4 r2 b1
  go_wp2_with fail
  refine (HC _).mono ?_
  rintro e w7 ⟨rfl, d7⟩
  have r4 : BoxN w7 (w.heap.size + 1) 77 #[.int .u8 (x0 : Int), .int .u8 (x1 : Int), .int .u8 (x2 : Int), .int .u8 (x3 : Int), .int .u16 (x4 : Int), .bool fN, .bool fV, .bool fD, .bool fI, .bool fZ, .bool fC, .string s5] := R4.out.below d7
  have r2 : BoxN w7 w.heap.size 39 #[.int .u8 0, .int .u8 0, .int .u8 0, .int .u8 0, .int .u16 0, .bool false, .bool false, .bool false, .bool false, .bool false, .bool false] := R2.out.below d7
  have b1 := bstep B1.out d7
  clear R4 R2 B1 d7 HC k5 g5 f5 k6 g6 f6 k7 g7 f7 k8 g8 f8 k9 g9 f9 k10 g10 f10 k0 k1 k2 k3 k4
  have rf := fun k => r2.frozen k
  have g0 := r2.cell 0 _ rfl
  have g1 := r2.cell 1 _ rfl
  have g2 := r2.cell 2 _ rfl
  have g3 := r2.cell 3 _ rfl
  have g4 := r2.cell 4 _ rfl
  have g5 := r2.cell 5 _ rfl
  have g6 := r2.cell 6 _ rfl
  have g7 := r2.cell 7 _ rfl
  have g8 := r2.cell 8 _ rfl
  have g9 := r2.cell 9 _ rfl
  have g10 := r2.cell 10 _ rfl
  by_cases hT : T = s
  · obtain ⟨rfl, rfl⟩ := HY.out hT
    subst hT
    clear HY HN
    have k0 := r4.cell 0 _ rfl
    have k1 := r4.cell 1 _ rfl
    have k2 := r4.cell 2 _ rfl
    have k3 := r4.cell 3 _ rfl
    have k4 := r4.cell 4 _ rfl
    have k5 := r4.cell 5 _ rfl
    have k6 := r4.cell 6 _ rfl
    have k7 := r4.cell 7 _ rfl
    have k8 := r4.cell 8 _ rfl
    have k9 := r4.cell 9 _ rfl
    have k10 := r4.cell 10 _ rfl
    have B1 := Lib.hid b1
    clear r4 r2 b1
    go_wp2
    refine bodyPost_ret (v := .tuple #[cpuV ⟨x0, x1, x2, x3, x4, fN, fV, fD, fI, fZ, fC⟩, .bool true]) (by simp [results, Try.results24, go_sem, g0, g1, g2, g3, g4, g5, g6, g7, g8, g9, g10]) rfl ⟨rfl, ?_⟩
    have hW4 := B1.out
    repeat (any_goals (first | (with_reducible exact hW4) | (with_reducible refine Below.setCell ?_ ?_ _)))
    all_goals (first | (with_reducible exact Nat.le_refl _) | (simp; done) | (simp; omega))
  · obtain ⟨rfl, rfl⟩ := HN.out hT
    have hb : (T.toList == s.toList) = false := by
      rw [beq_eq_false_iff_ne]
      intro h
      exact hT (by apply ByteArray.ext; rw [← Array.toArray_toList (xs := T.data), ← Array.toArray_toList (xs := s.data), ← ByteArray.toList_eq, ← ByteArray.toList_eq, h])
    clear HY HN hT
    have B1 := Lib.hid b1
    clear r4 r2 b1
    go_wp2
    refine bodyPost_ret (v := .tuple #[cpuV cpu0, .bool false]) (by simp [results, Try.results24, go_sem, cpu0, g0, g1, g2, g3, g4, g5, g6, g7, g8, g9, g10]) rfl ⟨rfl, ?_⟩
    have hW4 := B1.out
    repeat (any_goals (first | (with_reducible exact hW4) | (with_reducible refine Below.setCell ?_ ?_ _)))
    all_goals (first | (with_reducible exact Nat.le_refl _) | (simp; done) | (simp; omega))

theorem implReadCpu : ImplReadCpu := fun s w hs => by
  by_cases h : cpuS (readerCpu s) = s
  · rw [reader_yes h]
    exact implReadCpu_by s hs _ rfl _ _ (Lib.hid fun _ => ⟨rfl, rfl⟩) (Lib.hid fun hn => absurd h hn) w
  · rw [reader_no h]
    exact implReadCpu_by s hs _ rfl _ _ (Lib.hid fun hy => absurd hy h) (Lib.hid fun _ => ⟨rfl, rfl⟩) w

end Go.Proofs.Ytppkcljpfjdlnaa
