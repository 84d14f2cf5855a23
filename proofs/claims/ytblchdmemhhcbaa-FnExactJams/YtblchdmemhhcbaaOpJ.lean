/-
  Contracts over the program: impl's operation of any byte (operationOf), and what NameOf, ModeOf, SizeOf, CodeOf tell of it.
-/
import Derived.Test.YtblchdmemhhcbaaOpI
import Derived.Test.YtblchdmemhhcbaaOpN
import Derived.Test.YtblchdmemhhcbaaOpLaws
namespace Go.Proofs.Ytblchdmemhhcbaa
set_option linter.unusedVariables false
set_option linter.unusedSimpArgs false
open Go.RowKit

def opV (b : Nat) : Value := .agg #[.string (opName b), .int .i64 (opMode b), .int .i64 (opSize b), .int .i64 (opKind b)]

set_option maxRecDepth 100000 in
theorem implOp_none (b : Nat) (hb : b < 256) (h : opId b = 0) (w : World) :
    Calls Try.prog 36 #[.int .u8 b] w fun e w' => e = .returned (.agg #[.string ⟨#[]⟩, .int .i64 (-1), .int .i64 0, .int .i64 0]) ∧ Below w.heap.size w w' := by
  have hr : b / 32 < 8 := by omega
  have hp : b / 4 % 8 < 8 := by omega
  have HI := Lib.hid (idAt_op b hb)
  have HH := Lib.hid h
  have HE : (opTx 0).toList.isEmpty = true := (opTx_empty (i := 0) (by omega)).trans (by decide)
  clear h
  go_enter Try.func36, Try.ntmps36
  go_wp2_with fail
  refine (implSplit_any b hb _).mono ?_
  rintro e w0 ⟨rfl, rfl⟩
  go_wp2_with fail
  refine (implNameAt_any (b / 32) (b / 4 % 8) (b % 4) hr hp _).mono ?_
  rintro e w1 ⟨rfl, hb1⟩
  rw [HI.out, HH.out]
  obtain ⟨T, hT⟩ : ∃ T, opTx 0 = T := ⟨_, rfl⟩
  rw [hT] at HE
  rw [hT]
  clear hT
  obtain ⟨hc, hf⟩ := opcell hb1
  have hz : w.heap.size < w1.heap.size := by have := hb1.size; simp at this; omega
  go_wp2
  refine bodyPost_ret (v := .agg #[.string ⟨#[]⟩, .int .i64 (-1), .int .i64 0, .int .i64 0]) (by simp [results, Try.results36, go_sem, hc, hz]) rfl ⟨rfl, ?_⟩
  exact ((((((((Below.refl _ _).alloc (Nat.le_refl _) _).trans (hb1.mono (by simp))).setCell (by simp) _).setCell (by simp) _).setCell (by simp) _).setCell (by simp) _))

set_option maxRecDepth 100000 in
theorem implOp_by (b : Nat) (hb : b < 256) (T : ByteArray) (m : Int) (HI : Hid (opTx (idAt (b / 32) (b / 4 % 8) (b % 4)) = T)) (HM : Hid (imAt (b / 32) (b / 4 % 8) (b % 4) = m)) (HE : T.toList.isEmpty = false) (w : World) :
    Calls Try.prog 36 #[.int .u8 b] w fun e w' => e = .returned (.agg #[.string T, .int .i64 m, .int .i64 (sizeOfM m), .int .i64 (kindN T.toList m)]) ∧ Below w.heap.size w w' := by
  have hr : b / 32 < 8 := by omega
  have hp : b / 4 % 8 < 8 := by omega
  go_enter Try.func36, Try.ntmps36
  go_wp2_with fail
  refine (implSplit_any b hb _).mono ?_
  rintro e w0 ⟨rfl, rfl⟩
  go_wp2_with fail
  refine (implNameAt_any (b / 32) (b / 4 % 8) (b % 4) hr hp _).mono ?_
  rintro e w1 ⟨rfl, hb1⟩
  rw [HI.out]
  obtain ⟨hc, hf⟩ := opcell hb1
  have hz : w.heap.size < w1.heap.size := by have := hb1.size; simp at this; omega
  go_wp2_with fail
  refine (implModeAt_any (b / 32) (b / 4 % 8) (b % 4) hr hp _).mono ?_
  rintro e w2 ⟨rfl, rfl⟩
  rw [HM.out]
  go_wp2_with fail
  refine (implSizeM_any m _).mono ?_
  rintro e w2 ⟨rfl, rfl⟩
  go_wp2_with fail
  refine (implKindN_any T m _).mono ?_
  rintro e w2 ⟨rfl, rfl⟩
  go_wp2
  refine bodyPost_ret (v := .agg #[.string T, .int .i64 m, .int .i64 (sizeOfM m), .int .i64 (kindN T.toList m)]) (by simp [results, Try.results36, go_sem, hc, hz]) rfl ⟨rfl, ?_⟩
  exact ((((((((Below.refl _ _).alloc (Nat.le_refl _) _).trans (hb1.mono (by simp))).setCell (by simp) _).setCell (by simp) _).setCell (by simp) _).setCell (by simp) _))

theorem implOp_some (b : Nat) (hb : b < 256) (h : ¬ opId b = 0) (w : World) :
    Calls Try.prog 36 #[.int .u8 b] w fun e w' => e = .returned (.agg #[.string (opName b), .int .i64 (opMode b), .int .i64 (sizeOfM (opMode b)), .int .i64 (kindN (opName b).toList (opMode b))]) ∧ Below w.heap.size w w' :=
  implOp_by b hb (opName b) (opMode b) (Lib.hid (by rw [idAt_op b hb]; rfl)) (Lib.hid (imAt_op hb h)) (by rw [opName_empty hb]; simpa using h) w

theorem implOp_any (b : Nat) (hb : b < 256) (w : World) :
    Calls Try.prog 36 #[.int .u8 b] w fun e w' => e = .returned (.agg #[.string (opName b), .int .i64 (opMode b), .int .i64 (opSize b), .int .i64 (opKind b)]) ∧ Below w.heap.size w w' := by
  by_cases h : opId b = 0
  · have e1 : opName b = ⟨#[]⟩ := by simp [opName, h, opTx]
    have e2 : opMode b = -1 := by simp [opMode, h]
    have e3 : opSize b = 0 := by simp [opSize, h]
    have e4 : opKind b = 0 := by simp [opKind, kindBy, h]
    rw [e1, e2, e3, e4]
    exact implOp_none b hb h w
  · have e3 : opSize b = sizeOfM (opMode b) := by simp [opSize, h]
    have e4 : opKind b = kindN (opName b).toList (opMode b) := by
      have he : (opName b).data.toList.isEmpty = false := by
        have := opName_empty hb
        have e : (opName b).toList = (opName b).data.toList := ByteArray.toList_eq _
        rw [e] at this
        rw [this]; simpa using h
      have hk := kindL_op hb
      rw [kindL, if_neg (by simp [he])] at hk
      rw [ByteArray.toList_eq]
      exact hk.symm
    rw [e3, e4]
    exact implOp_some b hb h w

theorem opField (a b c d : Value) (w : World) : (Instr.field 61 (.agg #[a, b, c, d]) 0).run Try.prog w = .ok a w ∧ (Instr.field 61 (.agg #[a, b, c, d]) 1).run Try.prog w = .ok b w ∧ (Instr.field 61 (.agg #[a, b, c, d]) 2).run Try.prog w = .ok c w ∧ (Instr.field 61 (.agg #[a, b, c, d]) 3).run Try.prog w = .ok d w :=
  ⟨by kernel_rfl, by kernel_rfl, by kernel_rfl, by kernel_rfl⟩

end Go.Proofs.Ytblchdmemhhcbaa
