/-
  Contracts over the program: texts of flags and of a processor.
-/
import Derived.Test.YtppkcljpfjdlnaaCpuA
namespace Go.Proofs.Ytppkcljpfjdlnaa
set_option linter.unusedVariables false
set_option linter.unusedSimpArgs false
open Go.RowKit

theorem signWhere_any (on : Bool) (c : UInt8) (w : World) :
    Calls Try.prog 88 #[.string ⟨#[c]⟩, .bool on] w fun e w' => e = .returned (.string (markS on c)) ∧ w = w' := by
  cases on
  · go_enter Try.func88, Try.ntmps88
    go_wp2
    go_ret
    exact ⟨rfl, rfl⟩
  · go_enter Try.func88, Try.ntmps88
    go_wp2
    go_ret
    exact ⟨rfl, rfl⟩

set_option maxRecDepth 100000 in
set_option maxHeartbeats 2000000 in
theorem implFlagsT_by (n v d i z c : Bool) (t1 t2 t3 t4 t5 t6 : ByteArray) (s1 : t1.size = 1) (s2 : t2.size = 1) (s3 : t3.size = 1) (s4 : t4.size = 1) (s5 : t5.size = 1) (s6 : t6.size = 1)
    (H1 : ∀ w, Calls Try.prog 88 #[.string ⟨#[78]⟩, .bool n] w fun e w' => e = .returned (.string t1) ∧ w = w')
    (H2 : ∀ w, Calls Try.prog 88 #[.string ⟨#[86]⟩, .bool v] w fun e w' => e = .returned (.string t2) ∧ w = w')
    (H3 : ∀ w, Calls Try.prog 88 #[.string ⟨#[68]⟩, .bool d] w fun e w' => e = .returned (.string t3) ∧ w = w')
    (H4 : ∀ w, Calls Try.prog 88 #[.string ⟨#[73]⟩, .bool i] w fun e w' => e = .returned (.string t4) ∧ w = w')
    (H5 : ∀ w, Calls Try.prog 88 #[.string ⟨#[90]⟩, .bool z] w fun e w' => e = .returned (.string t5) ∧ w = w')
    (H6 : ∀ w, Calls Try.prog 88 #[.string ⟨#[67]⟩, .bool c] w fun e w' => e = .returned (.string t6) ∧ w = w') (w : World) :
    Calls Try.prog 77 #[.agg #[.bool n, .bool v, .bool d, .bool i, .bool z, .bool c]] w fun e w' => e = .returned (.string (t1 ++ t2 ++ t3 ++ t4 ++ t5 ++ t6)) ∧ Below w.heap.size w w' := by
  go_enter Try.func77, Try.ntmps77
  go_wp2_with fail
  go_quiet (first | (go_at_call 88; exact Calls.quiet_of_same ((H1 _).mono fun _ _ h => ⟨h.1, h.2.symm⟩)) | (go_at_call 88; exact Calls.quiet_of_same ((H2 _).mono fun _ _ h => ⟨h.1, h.2.symm⟩)) | (go_at_call 88; exact Calls.quiet_of_same ((H3 _).mono fun _ _ h => ⟨h.1, h.2.symm⟩)) | (go_at_call 88; exact Calls.quiet_of_same ((H4 _).mono fun _ _ h => ⟨h.1, h.2.symm⟩)) | (go_at_call 88; exact Calls.quiet_of_same ((H5 _).mono fun _ _ h => ⟨h.1, h.2.symm⟩)) | (go_at_call 88; exact Calls.quiet_of_same ((H6 _).mono fun _ _ h => ⟨h.1, h.2.symm⟩)))
  go_wp2
  go_ret
  exact ⟨rfl, below_drewN ((Below.refl _ _).alloc (Nat.le_refl _) _) _⟩

theorem implFlagsT_any (n v d i z c : Bool) (w : World) :
    Calls Try.prog 77 #[.agg #[.bool n, .bool v, .bool d, .bool i, .bool z, .bool c]] w fun e w' => e = .returned (.string (flagS n v d i z c)) ∧ Below w.heap.size w w' :=
  implFlagsT_by n v d i z c _ _ _ _ _ _ (markS_size _ _) (markS_size _ _) (markS_size _ _) (markS_size _ _) (markS_size _ _) (markS_size _ _) (fun w => signWhere_any n 78 w) (fun w => signWhere_any v 86 w) (fun w => signWhere_any d 68 w) (fun w => signWhere_any i 73 w) (fun w => signWhere_any z 90 w) (fun w => signWhere_any c 67 w) w

theorem hexBelow (x d : Nat) (hx : x < 65536) (h1 : 1 ≤ d) (h8 : d ≤ 8) (w : World) :
    Calls Try.prog 76 #[.int .i64 (x : Int), .int .i64 (d : Int)] w fun e w' => e = .returned (.string (hxS d x)) ∧ Below w.heap.size w w' := by
  refine (implHexText_yes x d (by omega) h1 h8 w).mono ?_
  rintro e w' ⟨rfl, C, rfl⟩
  exact ⟨rfl, (Below.refl _ _).alloc (Nat.le_refl _) _⟩

set_option maxRecDepth 100000 in
set_option maxHeartbeats 4000000 in
theorem implCpuT_by (c : CpuN) (hc : c.ok) (t1 t2 t3 t4 t5 t6 : ByteArray) (s1 : t1.size = 2) (s2 : t2.size = 2) (s3 : t3.size = 2) (s4 : t4.size = 2) (s5 : t5.size = 4) (s6 : t6.size = 6)
    (H1 : ∀ w, Calls Try.prog 76 #[.int .i64 (c.A : Int), .int .i64 2] w fun e w' => e = .returned (.string t1) ∧ Below w.heap.size w w')
    (H2 : ∀ w, Calls Try.prog 76 #[.int .i64 (c.X : Int), .int .i64 2] w fun e w' => e = .returned (.string t2) ∧ Below w.heap.size w w')
    (H3 : ∀ w, Calls Try.prog 76 #[.int .i64 (c.Y : Int), .int .i64 2] w fun e w' => e = .returned (.string t3) ∧ Below w.heap.size w w')
    (H4 : ∀ w, Calls Try.prog 76 #[.int .i64 (c.S : Int), .int .i64 2] w fun e w' => e = .returned (.string t4) ∧ Below w.heap.size w w')
    (H5 : ∀ w, Calls Try.prog 76 #[.int .i64 (c.PC : Int), .int .i64 4] w fun e w' => e = .returned (.string t5) ∧ Below w.heap.size w w')
    (H6 : ∀ w, Calls Try.prog 77 #[.agg #[.bool c.N, .bool c.V, .bool c.D, .bool c.I, .bool c.Z, .bool c.C]] w fun e w' => e = .returned (.string t6) ∧ Below w.heap.size w w') (w : World) :
    Calls Try.prog 58 #[cpuV c] w fun e w' => e = .returned (.string (⟨#[65, 61]⟩ ++ t1 ++ ⟨#[32, 88, 61]⟩ ++ t2 ++ ⟨#[32, 89, 61]⟩ ++ t3 ++ ⟨#[32, 83, 61]⟩ ++ t4 ++ ⟨#[32, 80, 67, 61]⟩ ++ t5 ++ ⟨#[32]⟩ ++ t6)) ∧ Below w.heap.size w w' := by
  obtain ⟨cA, cX, cY, cS, cP, cN, cV, cD, cI, cZ, cC⟩ := c
  obtain ⟨h1, h2, h3, h4, h5⟩ := hc
  dsimp only at h1 h2 h3 h4 h5 H1 H2 H3 H4 H5 H6
  have a1 : IntKind.i64.wrap (cA : Int) = (cA : Int) := IntWalk.i64_in _ (by omega)
  have a2 : IntKind.i64.wrap (cX : Int) = (cX : Int) := IntWalk.i64_in _ (by omega)
  have a3 : IntKind.i64.wrap (cY : Int) = (cY : Int) := IntWalk.i64_in _ (by omega)
  have a4 : IntKind.i64.wrap (cS : Int) = (cS : Int) := IntWalk.i64_in _ (by omega)
  have a5 : IntKind.i64.wrap (cP : Int) = (cP : Int) := IntWalk.i64_in _ (by omega)
  have bx := cpuAt_of (BoxN.new w 39 (cpuCells ⟨cA, cX, cY, cS, cP, cN, cV, cD, cI, cZ, cC⟩))
  have b0 : Below w.heap.size w (w.alloc (.cells (cpuCells ⟨cA, cX, cY, cS, cP, cN, cV, cD, cI, cZ, cC⟩) 39)).drew := ((Below.refl _ _).alloc (Nat.le_refl _) _).drew
  go_enter Try.func58, Try.ntmps58
  go_wp2_with fail
  generalize hW : w.alloc (.cells (cpuCells ⟨cA, cX, cY, cS, cP, cN, cV, cD, cI, cZ, cC⟩) 39) = W at bx b0 ⊢
  have S0 : CpuAt W.drew w.heap.size ⟨cA, cX, cY, cS, cP, cN, cV, cD, cI, cZ, cC⟩ := bx
  unfold CpuAt at S0
  dsimp only at S0
  clear bx hW
  generalize w.heap.size = B at S0 ⊢
  go_region_held3 (fun w' => (w'.cell? ⟨B, 0, none⟩ = some (.int .u8 (cA : Int)) ∧ w'.cell? ⟨B, 1, none⟩ = some (.int .u8 (cX : Int)) ∧ w'.cell? ⟨B, 2, none⟩ = some (.int .u8 (cY : Int)) ∧ w'.cell? ⟨B, 3, none⟩ = some (.int .u8 (cS : Int)) ∧ w'.cell? ⟨B, 4, none⟩ = some (.int .u16 (cP : Int)) ∧ w'.cell? ⟨B, 5, none⟩ = some (.bool cN) ∧ w'.cell? ⟨B, 6, none⟩ = some (.bool cV) ∧ w'.cell? ⟨B, 7, none⟩ = some (.bool cD) ∧ w'.cell? ⟨B, 8, none⟩ = some (.bool cI) ∧ w'.cell? ⟨B, 9, none⟩ = some (.bool cZ) ∧ w'.cell? ⟨B, 10, none⟩ = some (.bool cC)) ∧ B < w'.heap.size)
    (((try dsimp only); (first | (with_reducible exact S0) | (exact CpuAt.below (c := ⟨cA, cX, cY, cS, cP, cN, cV, cD, cI, cZ, cC⟩) S0 d1) | (exact CpuAt.below (c := ⟨cA, cX, cY, cS, cP, cN, cV, cD, cI, cZ, cC⟩) (CpuAt.below (c := ⟨cA, cX, cY, cS, cP, cN, cV, cD, cI, cZ, cC⟩) S0 d1) d2) | (exact CpuAt.below (c := ⟨cA, cX, cY, cS, cP, cN, cV, cD, cI, cZ, cC⟩) (CpuAt.below (c := ⟨cA, cX, cY, cS, cP, cN, cV, cD, cI, cZ, cC⟩) (CpuAt.below (c := ⟨cA, cX, cY, cS, cP, cN, cV, cD, cI, cZ, cC⟩) S0 d1) d2) d3) | (exact CpuAt.below (c := ⟨cA, cX, cY, cS, cP, cN, cV, cD, cI, cZ, cC⟩) (CpuAt.below (c := ⟨cA, cX, cY, cS, cP, cN, cV, cD, cI, cZ, cC⟩) (CpuAt.below (c := ⟨cA, cX, cY, cS, cP, cN, cV, cD, cI, cZ, cC⟩) (CpuAt.below (c := ⟨cA, cX, cY, cS, cP, cN, cV, cD, cI, cZ, cC⟩) S0 d1) d2) d3) d4) | (exact CpuAt.below (c := ⟨cA, cX, cY, cS, cP, cN, cV, cD, cI, cZ, cC⟩) (CpuAt.below (c := ⟨cA, cX, cY, cS, cP, cN, cV, cD, cI, cZ, cC⟩) (CpuAt.below (c := ⟨cA, cX, cY, cS, cP, cN, cV, cD, cI, cZ, cC⟩) (CpuAt.below (c := ⟨cA, cX, cY, cS, cP, cN, cV, cD, cI, cZ, cC⟩) (CpuAt.below (c := ⟨cA, cX, cY, cS, cP, cN, cV, cD, cI, cZ, cC⟩) S0 d1) d2) d3) d4) d5) | (exact CpuAt.below (c := ⟨cA, cX, cY, cS, cP, cN, cV, cD, cI, cZ, cC⟩) (CpuAt.below (c := ⟨cA, cX, cY, cS, cP, cN, cV, cD, cI, cZ, cC⟩) (CpuAt.below (c := ⟨cA, cX, cY, cS, cP, cN, cV, cD, cI, cZ, cC⟩) (CpuAt.below (c := ⟨cA, cX, cY, cS, cP, cN, cV, cD, cI, cZ, cC⟩) (CpuAt.below (c := ⟨cA, cX, cY, cS, cP, cN, cV, cD, cI, cZ, cC⟩) (CpuAt.below (c := ⟨cA, cX, cY, cS, cP, cN, cV, cD, cI, cZ, cC⟩) S0 d1) d2) d3) d4) d5) d6))))
    (first | (go_at_call 76; (with_reducible refine (H1 _).mono ?_); rintro e w1 ⟨rfl, d1⟩) | (go_at_call 76; (with_reducible refine (H2 _).mono ?_); rintro e w2 ⟨rfl, d2⟩) | (go_at_call 76; (with_reducible refine (H3 _).mono ?_); rintro e w3 ⟨rfl, d3⟩) | (go_at_call 76; (with_reducible refine (H4 _).mono ?_); rintro e w4 ⟨rfl, d4⟩) | (go_at_call 76; (with_reducible refine (H5 _).mono ?_); rintro e w5 ⟨rfl, d5⟩) | (go_at_call 77; (with_reducible refine (H6 _).mono ?_); rintro e w6 ⟨rfl, d6⟩))
  all_goals go_wp2
  all_goals go_ret
  all_goals exact ⟨rfl, bstep (bstep (bstep (bstep (bstep (bstep b0 d1) d2) d3) d4) d5) d6⟩

theorem implCpuT_any (c : CpuN) (hc : c.ok) (w : World) :
    Calls Try.prog 58 #[cpuV c] w fun e w' => e = .returned (.string (cpuS c)) ∧ Below w.heap.size w w' := by
  obtain ⟨h1, h2, h3, h4, h5⟩ := hc
  exact implCpuT_by c ⟨h1, h2, h3, h4, h5⟩ (hxS 2 c.A) (hxS 2 c.X) (hxS 2 c.Y) (hxS 2 c.S) (hxS 4 c.PC) (flagS c.N c.V c.D c.I c.Z c.C) (hxS_size _ _) (hxS_size _ _) (hxS_size _ _) (hxS_size _ _) (hxS_size _ _) (flagS_size _ _ _ _ _ _)
    (fun w => hexBelow c.A 2 (by omega) (by omega) (by omega) w) (fun w => hexBelow c.X 2 (by omega) (by omega) (by omega) w) (fun w => hexBelow c.Y 2 (by omega) (by omega) (by omega) w) (fun w => hexBelow c.S 2 (by omega) (by omega) (by omega) w) (fun w => hexBelow c.PC 4 h5 (by omega) (by omega) w) (fun w => implFlagsT_any _ _ _ _ _ _ w) w

set_option maxRecDepth 100000 in
theorem implCpuText_any (c : CpuN) (hc : c.ok) (w : World) :
    Calls Try.prog 25 #[cpuV c] w fun e w' => e = .returned (.string (cpuS c)) ∧ Below w.heap.size w w' := by
  have HT := fun w => implCpuT_any c hc w
  obtain ⟨T, hT⟩ : ∃ T, cpuS c = T := ⟨_, rfl⟩
  rw [hT] at HT ⊢
  clear hT hc
  obtain ⟨cA, cX, cY, cS, cP, cN, cV, cD, cI, cZ, cC⟩ := c
  go_enter Try.func25, Try.ntmps25
  go_wp2_with fail
  refine (HT _).mono ?_
  rintro e w1 ⟨rfl, d1⟩
  have b1 := bstep ((Below.refl _ w).alloc (Nat.le_refl _) _) d1
  go_wp2
  go_ret
  exact ⟨rfl, b1⟩

end Go.Proofs.Ytppkcljpfjdlnaa
