/-
  Contracts over the program: the model's texts of flags and of a processor.
-/
import Derived.Test.YtppkcljpfjdlnaaCpuNum
import Derived.Test.YtppkcljpfjdlnaaHexText
import Derived.Test.YtppkcljpfjdlnaaSpan
import Derived.Deep.QuietTactic
import Derived.IntWalk
import Derived.BigQuiet
import Derived.Deep.RegionHeld3
namespace Go.Proofs.Ytppkcljpfjdlnaa
set_option linter.unusedVariables false
set_option linter.unusedSimpArgs false
open Go.RowKit

theorem l05Mark_any (on : Bool) (c : UInt8) (w : World) :
    Calls Try.prog 79 #[.bool on, .string ⟨#[c]⟩] w fun e w' => e = .returned (.string (markS on c)) ∧ w = w' := by
  cases on
  · go_enter Try.func79, Try.ntmps79
    go_wp2
    go_ret
    exact ⟨rfl, rfl⟩
  · go_enter Try.func79, Try.ntmps79
    go_wp2
    go_ret
    exact ⟨rfl, rfl⟩

set_option maxRecDepth 100000 in
set_option maxHeartbeats 2000000 in
theorem specFlags_by (n v d i z c : Bool) (t1 t2 t3 t4 t5 t6 : ByteArray) (s1 : t1.size = 1) (s2 : t2.size = 1) (s3 : t3.size = 1) (s4 : t4.size = 1) (s5 : t5.size = 1) (s6 : t6.size = 1)
    (H1 : ∀ w, Calls Try.prog 79 #[.bool n, .string ⟨#[78]⟩] w fun e w' => e = .returned (.string t1) ∧ w = w')
    (H2 : ∀ w, Calls Try.prog 79 #[.bool v, .string ⟨#[86]⟩] w fun e w' => e = .returned (.string t2) ∧ w = w')
    (H3 : ∀ w, Calls Try.prog 79 #[.bool d, .string ⟨#[68]⟩] w fun e w' => e = .returned (.string t3) ∧ w = w')
    (H4 : ∀ w, Calls Try.prog 79 #[.bool i, .string ⟨#[73]⟩] w fun e w' => e = .returned (.string t4) ∧ w = w')
    (H5 : ∀ w, Calls Try.prog 79 #[.bool z, .string ⟨#[90]⟩] w fun e w' => e = .returned (.string t5) ∧ w = w')
    (H6 : ∀ w, Calls Try.prog 79 #[.bool c, .string ⟨#[67]⟩] w fun e w' => e = .returned (.string t6) ∧ w = w') (w : World) :
    Calls Try.prog 64 #[.agg #[.bool n, .bool v, .bool d, .bool i, .bool z, .bool c]] w fun e w' => e = .returned (.string (t1 ++ t2 ++ t3 ++ t4 ++ t5 ++ t6)) ∧ Below w.heap.size w w' := by
  go_enter Try.func64, Try.ntmps64
  go_wp2_with fail
  go_quiet (first | (go_at_call 79; exact Calls.quiet_of_same ((H1 _).mono fun _ _ h => ⟨h.1, h.2.symm⟩)) | (go_at_call 79; exact Calls.quiet_of_same ((H2 _).mono fun _ _ h => ⟨h.1, h.2.symm⟩)) | (go_at_call 79; exact Calls.quiet_of_same ((H3 _).mono fun _ _ h => ⟨h.1, h.2.symm⟩)) | (go_at_call 79; exact Calls.quiet_of_same ((H4 _).mono fun _ _ h => ⟨h.1, h.2.symm⟩)) | (go_at_call 79; exact Calls.quiet_of_same ((H5 _).mono fun _ _ h => ⟨h.1, h.2.symm⟩)) | (go_at_call 79; exact Calls.quiet_of_same ((H6 _).mono fun _ _ h => ⟨h.1, h.2.symm⟩)))
  go_wp2
  go_ret
  exact ⟨rfl, below_drewN ((Below.refl _ _).alloc (Nat.le_refl _) _) _⟩

theorem specFlags_any (n v d i z c : Bool) (w : World) :
    Calls Try.prog 64 #[.agg #[.bool n, .bool v, .bool d, .bool i, .bool z, .bool c]] w fun e w' => e = .returned (.string (flagS n v d i z c)) ∧ Below w.heap.size w w' :=
  specFlags_by n v d i z c _ _ _ _ _ _ (markS_size _ _) (markS_size _ _) (markS_size _ _) (markS_size _ _) (markS_size _ _) (markS_size _ _) (fun w => l05Mark_any n 78 w) (fun w => l05Mark_any v 86 w) (fun w => l05Mark_any d 68 w) (fun w => l05Mark_any i 73 w) (fun w => l05Mark_any z 90 w) (fun w => l05Mark_any c 67 w) w

/-- A processor's cells in a box. -/
def CpuAt (w : World) (B : Nat) (c : CpuN) : Prop :=
  (w.cell? ⟨B, 0, none⟩ = some (.int .u8 (c.A : Int)) ∧ w.cell? ⟨B, 1, none⟩ = some (.int .u8 (c.X : Int)) ∧ w.cell? ⟨B, 2, none⟩ = some (.int .u8 (c.Y : Int)) ∧ w.cell? ⟨B, 3, none⟩ = some (.int .u8 (c.S : Int)) ∧ w.cell? ⟨B, 4, none⟩ = some (.int .u16 (c.PC : Int)) ∧
    w.cell? ⟨B, 5, none⟩ = some (.bool c.N) ∧ w.cell? ⟨B, 6, none⟩ = some (.bool c.V) ∧ w.cell? ⟨B, 7, none⟩ = some (.bool c.D) ∧ w.cell? ⟨B, 8, none⟩ = some (.bool c.I) ∧ w.cell? ⟨B, 9, none⟩ = some (.bool c.Z) ∧ w.cell? ⟨B, 10, none⟩ = some (.bool c.C)) ∧ B < w.heap.size

theorem cpuAt_of {w : World} {B : Nat} {t : TypeId} {c : CpuN} (h : BoxN w B t (cpuCells c)) : CpuAt w B c :=
  ⟨⟨h.cell 0 _ rfl, h.cell 1 _ rfl, h.cell 2 _ rfl, h.cell 3 _ rfl, h.cell 4 _ rfl, h.cell 5 _ rfl, h.cell 6 _ rfl, h.cell 7 _ rfl, h.cell 8 _ rfl, h.cell 9 _ rfl, h.cell 10 _ rfl⟩, h.lt⟩

theorem CpuAt.below {w w' : World} {B : Nat} {c : CpuN} (h : CpuAt w B c) (hb : Below w.heap.size w w') : CpuAt w' B c := by
  obtain ⟨⟨h0, h1, h2, h3, h4, h5, h6, h7, h8, h9, h10⟩, hB⟩ := h
  exact ⟨⟨cellKept hb h0 hB, cellKept hb h1 hB, cellKept hb h2 hB, cellKept hb h3 hB, cellKept hb h4 hB, cellKept hb h5 hB, cellKept hb h6 hB, cellKept hb h7 hB, cellKept hb h8 hB, cellKept hb h9 hB, cellKept hb h10 hB⟩, Nat.lt_of_lt_of_le hB hb.size⟩

set_option maxRecDepth 100000 in
set_option maxHeartbeats 4000000 in
theorem specCpuText_by (c : CpuN) (hc : c.ok) (t1 t2 t3 t4 t5 t6 : ByteArray) (s1 : t1.size = 2) (s2 : t2.size = 2) (s3 : t3.size = 2) (s4 : t4.size = 2) (s5 : t5.size = 4) (s6 : t6.size = 6)
    (H1 : ∀ w, Calls Try.prog 63 #[.int .i64 (c.A : Int), .int .i64 2] w fun e w' => e = .returned (.string t1) ∧ w = w')
    (H2 : ∀ w, Calls Try.prog 63 #[.int .i64 (c.X : Int), .int .i64 2] w fun e w' => e = .returned (.string t2) ∧ w = w')
    (H3 : ∀ w, Calls Try.prog 63 #[.int .i64 (c.Y : Int), .int .i64 2] w fun e w' => e = .returned (.string t3) ∧ w = w')
    (H4 : ∀ w, Calls Try.prog 63 #[.int .i64 (c.S : Int), .int .i64 2] w fun e w' => e = .returned (.string t4) ∧ w = w')
    (H5 : ∀ w, Calls Try.prog 63 #[.int .i64 (c.PC : Int), .int .i64 4] w fun e w' => e = .returned (.string t5) ∧ w = w')
    (H6 : ∀ w, Calls Try.prog 64 #[.agg #[.bool c.N, .bool c.V, .bool c.D, .bool c.I, .bool c.Z, .bool c.C]] w fun e w' => e = .returned (.string t6) ∧ Below w.heap.size w w') (w : World) :
    Calls Try.prog 41 #[cpuV c] w fun e w' => e = .returned (.string (⟨#[65, 61]⟩ ++ t1 ++ ⟨#[32, 88, 61]⟩ ++ t2 ++ ⟨#[32, 89, 61]⟩ ++ t3 ++ ⟨#[32, 83, 61]⟩ ++ t4 ++ ⟨#[32, 80, 67, 61]⟩ ++ t5 ++ ⟨#[32]⟩ ++ t6)) ∧ Below w.heap.size w w' := by
  obtain ⟨cA, cX, cY, cS, cP, cN, cV, cD, cI, cZ, cC⟩ := c
  obtain ⟨h1, h2, h3, h4, h5⟩ := hc
  dsimp only at h1 h2 h3 h4 h5 H1 H2 H3 H4 H5 H6
  have a1 : IntKind.i64.wrap (cA : Int) = (cA : Int) := IntWalk.i64_in _ (by omega)
  have a2 : IntKind.i64.wrap (cX : Int) = (cX : Int) := IntWalk.i64_in _ (by omega)
  have a3 : IntKind.i64.wrap (cY : Int) = (cY : Int) := IntWalk.i64_in _ (by omega)
  have a4 : IntKind.i64.wrap (cS : Int) = (cS : Int) := IntWalk.i64_in _ (by omega)
  have a5 : IntKind.i64.wrap (cP : Int) = (cP : Int) := IntWalk.i64_in _ (by omega)
  have bx := cpuAt_of (BoxN.new w 39 (cpuCells ⟨cA, cX, cY, cS, cP, cN, cV, cD, cI, cZ, cC⟩))
  have b0 : Below w.heap.size w (w.alloc (.cells (cpuCells ⟨cA, cX, cY, cS, cP, cN, cV, cD, cI, cZ, cC⟩) 39)).drew := ((Below.refl _ _).alloc (Nat.le_refl _) _).drew
  go_enter Try.func41, Try.ntmps41
  go_wp2_with fail
  generalize hW : w.alloc (.cells (cpuCells ⟨cA, cX, cY, cS, cP, cN, cV, cD, cI, cZ, cC⟩) 39) = W at bx b0 ⊢
  have S0 : CpuAt W.drew w.heap.size ⟨cA, cX, cY, cS, cP, cN, cV, cD, cI, cZ, cC⟩ := bx
  unfold CpuAt at S0
  dsimp only at S0
  clear bx hW
  generalize w.heap.size = B at S0 ⊢
  go_region_held3 (fun w' => (w'.cell? ⟨B, 0, none⟩ = some (.int .u8 (cA : Int)) ∧ w'.cell? ⟨B, 1, none⟩ = some (.int .u8 (cX : Int)) ∧ w'.cell? ⟨B, 2, none⟩ = some (.int .u8 (cY : Int)) ∧ w'.cell? ⟨B, 3, none⟩ = some (.int .u8 (cS : Int)) ∧ w'.cell? ⟨B, 4, none⟩ = some (.int .u16 (cP : Int)) ∧ w'.cell? ⟨B, 5, none⟩ = some (.bool cN) ∧ w'.cell? ⟨B, 6, none⟩ = some (.bool cV) ∧ w'.cell? ⟨B, 7, none⟩ = some (.bool cD) ∧ w'.cell? ⟨B, 8, none⟩ = some (.bool cI) ∧ w'.cell? ⟨B, 9, none⟩ = some (.bool cZ) ∧ w'.cell? ⟨B, 10, none⟩ = some (.bool cC)) ∧ B < w'.heap.size)
    (((try dsimp only); (first | (with_reducible exact S0) | (exact CpuAt.below (c := ⟨cA, cX, cY, cS, cP, cN, cV, cD, cI, cZ, cC⟩) S0 d6))))
    (first | (go_at_call 63; with_reducible refine (H1 _).mono ?_; rintro e w' ⟨rfl, rfl⟩) | (go_at_call 63; with_reducible refine (H2 _).mono ?_; rintro e w' ⟨rfl, rfl⟩) | (go_at_call 63; with_reducible refine (H3 _).mono ?_; rintro e w' ⟨rfl, rfl⟩) | (go_at_call 63; with_reducible refine (H4 _).mono ?_; rintro e w' ⟨rfl, rfl⟩) | (go_at_call 63; with_reducible refine (H5 _).mono ?_; rintro e w' ⟨rfl, rfl⟩) | (go_at_call 64; with_reducible refine (H6 _).mono ?_; rintro e w6 ⟨rfl, d6⟩))
  all_goals go_wp2
  all_goals go_ret
  all_goals exact ⟨rfl, b0.trans (d6.mono b0.size)⟩

theorem specCpuText_any (c : CpuN) (hc : c.ok) (w : World) :
    Calls Try.prog 41 #[cpuV c] w fun e w' => e = .returned (.string (cpuS c)) ∧ Below w.heap.size w w' := by
  obtain ⟨h1, h2, h3, h4, h5⟩ := hc
  have e := specCpuText_by c ⟨h1, h2, h3, h4, h5⟩ (hxS 2 c.A) (hxS 2 c.X) (hxS 2 c.Y) (hxS 2 c.S) (hxS 4 c.PC) (flagS c.N c.V c.D c.I c.Z c.C) (hxS_size _ _) (hxS_size _ _) (hxS_size _ _) (hxS_size _ _) (hxS_size _ _) (flagS_size _ _ _ _ _ _)
    (fun w => specHexText_yes c.A 2 (by omega) (by omega) (by omega) w) (fun w => specHexText_yes c.X 2 (by omega) (by omega) (by omega) w) (fun w => specHexText_yes c.Y 2 (by omega) (by omega) (by omega) w) (fun w => specHexText_yes c.S 2 (by omega) (by omega) (by omega) w) (fun w => specHexText_yes c.PC 4 (by omega) (by omega) (by omega) w) (fun w => specFlags_any _ _ _ _ _ _ w) w
  exact e

end Go.Proofs.Ytppkcljpfjdlnaa
