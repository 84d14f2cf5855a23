/-
  Contracts over the program: the model's operation of any byte (l03Of), its name, mode, size, kind, and the byte of a name and mode.
-/
import Derived.Test.YtckfdbjjjgfbfaaUOpB
namespace Go.Proofs.Ytckfdbjjjgfbfaa
set_option linter.unusedVariables false
set_option linter.unusedSimpArgs false
open Go.RowKit

theorem opcell {W w1 : World} (hb : Below W.heap.size W w1) : (∀ b o, b < W.heap.size → w1.cell? ⟨b, o, none⟩ = W.cell? ⟨b, o, none⟩) ∧ (∀ b o, b < W.heap.size → w1.frozen? ⟨b, o, none⟩ = W.frozen? ⟨b, o, none⟩) :=
  ⟨fun b o h => hb.cell (p := ⟨b, o, none⟩) h, fun b o h => hb.frozen (p := ⟨b, o, none⟩) h⟩

set_option maxRecDepth 100000 in
theorem specOf_0 (b : Nat) (hb : b < 256) (h0 : ((b : Int) % 4 == 0) = true) (w : World) :
    Calls Try.prog 81 #[.int .u8 b] w fun e w' => e = .returned (.agg #[.string (opTx (sideZeroI (b / 32) (b / 4 % 8))), .int .i64 (sideZeroM (b / 32) (b / 4 % 8))]) ∧ Below w.heap.size w w' := by
  have hr : b / 32 < 8 := by omega
  have hp : b / 4 % 8 < 8 := by omega
  go_enter Try.func81, Try.ntmps81
  go_wp2_with fail
  refine (specZero_any (b / 32) (b / 4 % 8) hr hp _).mono ?_
  rintro e w1 ⟨rfl, hb1⟩
  obtain ⟨hc, hf⟩ := opcell hb1
  have hz : w.heap.size < w1.heap.size := by have := hb1.size; simp at this; omega
  go_wp2
  refine bodyPost_ret (v := .agg #[.string (opTx (sideZeroI (b / 32) (b / 4 % 8))), .int .i64 (sideZeroM (b / 32) (b / 4 % 8))]) (by simp [results, Try.results81, go_sem, hc, hz]) rfl ⟨rfl, ?_⟩
  exact (((((Below.refl _ _).alloc (Nat.le_refl _) _).trans (hb1.mono (by simp))).setCell (by simp) _).setCell (by simp) _)

set_option maxRecDepth 100000 in
theorem specOf_1 (b : Nat) (hb : b < 256) (h0 : ((b : Int) % 4 == 0) = false) (h1 : ((b : Int) % 4 == 1) = true) (w : World) :
    Calls Try.prog 81 #[.int .u8 b] w fun e w' => e = .returned (.agg #[.string (opTx (sideOneI (b / 32) (b / 4 % 8))), .int .i64 (sideOneM (b / 32) (b / 4 % 8))]) ∧ Below w.heap.size w w' := by
  have hr : b / 32 < 8 := by omega
  have hp : b / 4 % 8 < 8 := by omega
  go_enter Try.func81, Try.ntmps81
  go_wp2_with fail
  refine (specOne_any (b / 32) (b / 4 % 8) hr hp _).mono ?_
  rintro e w1 ⟨rfl, hb1⟩
  obtain ⟨hc, hf⟩ := opcell hb1
  have hz : w.heap.size < w1.heap.size := by have := hb1.size; simp at this; omega
  go_wp2
  refine bodyPost_ret (v := .agg #[.string (opTx (sideOneI (b / 32) (b / 4 % 8))), .int .i64 (sideOneM (b / 32) (b / 4 % 8))]) (by simp [results, Try.results81, go_sem, hc, hz]) rfl ⟨rfl, ?_⟩
  exact (((((Below.refl _ _).alloc (Nat.le_refl _) _).trans (hb1.mono (by simp))).setCell (by simp) _).setCell (by simp) _)

set_option maxRecDepth 100000 in
theorem specOf_2 (b : Nat) (hb : b < 256) (h0 : ((b : Int) % 4 == 0) = false) (h1 : ((b : Int) % 4 == 1) = false) (h2 : ((b : Int) % 4 == 2) = true) (w : World) :
    Calls Try.prog 81 #[.int .u8 b] w fun e w' => e = .returned (.agg #[.string (opTx (sideTwoI (b / 32) (b / 4 % 8))), .int .i64 (sideTwoM (b / 32) (b / 4 % 8))]) ∧ Below w.heap.size w w' := by
  have hr : b / 32 < 8 := by omega
  have hp : b / 4 % 8 < 8 := by omega
  go_enter Try.func81, Try.ntmps81
  go_wp2_with fail
  refine (specTwo_any (b / 32) (b / 4 % 8) hr hp _).mono ?_
  rintro e w1 ⟨rfl, hb1⟩
  obtain ⟨hc, hf⟩ := opcell hb1
  have hz : w.heap.size < w1.heap.size := by have := hb1.size; simp at this; omega
  go_wp2
  refine bodyPost_ret (v := .agg #[.string (opTx (sideTwoI (b / 32) (b / 4 % 8))), .int .i64 (sideTwoM (b / 32) (b / 4 % 8))]) (by simp [results, Try.results81, go_sem, hc, hz]) rfl ⟨rfl, ?_⟩
  exact (((((Below.refl _ _).alloc (Nat.le_refl _) _).trans (hb1.mono (by simp))).setCell (by simp) _).setCell (by simp) _)

set_option maxRecDepth 100000 in
theorem specOf_3 (b : Nat) (hb : b < 256) (h0 : ((b : Int) % 4 == 0) = false) (h1 : ((b : Int) % 4 == 1) = false) (h2 : ((b : Int) % 4 == 2) = false) (w : World) :
    Calls Try.prog 81 #[.int .u8 b] w fun e w' => e = .returned (.agg #[.string (opTx 0), .int .i64 0]) ∧ Below w.heap.size w w' := by
  go_enter Try.func81, Try.ntmps81
  go_wp2
  refine bodyPost_ret (v := .agg #[.string (opTx 0), .int .i64 0]) (by simp [results, Try.results81, go_sem, opTx]) rfl ⟨rfl, ?_⟩
  exact (Below.refl _ _).alloc (Nat.le_refl _) _

theorem specOf_any (b : Nat) (hb : b < 256) (w : World) :
    Calls Try.prog 81 #[.int .u8 b] w fun e w' => e = .returned (.agg #[.string (opName b), .int .i64 (opRawMode b)]) ∧ Below w.heap.size w w' := by
  have h4 : b % 4 = 0 ∨ b % 4 = 1 ∨ b % 4 = 2 ∨ b % 4 = 3 := by omega
  rcases h4 with h | h | h | h
  · simpa [opName, opId, opRawMode, h] using specOf_0 b hb (by simp; omega) w
  · simpa [opName, opId, opRawMode, h] using specOf_1 b hb (by simp; omega) (by simp; omega) w
  · simpa [opName, opId, opRawMode, h] using specOf_2 b hb (by simp; omega) (by simp; omega) (by simp; omega) w
  · simpa [opName, opId, opRawMode, h] using specOf_3 b hb (by simp; omega) (by simp; omega) (by simp; omega) w

theorem specName_any (b : Nat) (hb : b < 256) (w : World) :
    Calls Try.prog 71 #[.int .u8 b] w fun e w' => e = .returned (.string (opName b)) ∧ Below w.heap.size w w' := by
  have hfd : ∀ (a c : Value) (w : World), (Instr.field 130 (.agg #[a, c]) 0).run Try.prog w = .ok a w := fun _ _ _ => by kernel_rfl
  go_enter Try.func71, Try.ntmps71
  go_wp2_with fail
  refine (specOf_any b hb _).mono ?_
  rintro e w1 ⟨rfl, hb1⟩
  go_wp2
  go_ret
  exact ⟨rfl, hb1⟩

theorem opTx_empty {i : Nat} (hi : i ≤ 56) : (opTx i).toList.isEmpty = decide (i = 0) := by
  rw [ByteArray.toList_eq]
  have h : ∀ k : Fin 57, (opTx k.1).data.toList.isEmpty = decide (k.1 = 0) := by decide +kernel
  exact h ⟨i, by omega⟩

theorem opName_empty {b : Nat} (hb : b < 256) : (opName b).toList.isEmpty = decide (opId b = 0) := opTx_empty (opId_le hb)

theorem specMode_any (b : Nat) (hb : b < 256) (w : World) :
    Calls Try.prog 73 #[.int .u8 b] w fun e w' => e = .returned (.int .i64 (opMode b)) ∧ Below w.heap.size w w' := by
  have he := opName_empty hb
  by_cases hi : opId b = 0
  · have he2 : (opName b).toList.isEmpty = true := by rw [he]; simp [hi]
    clear he
    have hm : opMode b = -1 := by simp [opMode, hi]
    rw [hm]; clear hm hi
    go_enter Try.func73, Try.ntmps73
    go_wp2_with fail
    refine (specName_any b hb _).mono ?_
    rintro e w1 ⟨rfl, hb1⟩
    go_wp2
    go_ret
    exact ⟨rfl, hb1⟩
  · have he2 : (opName b).toList.isEmpty = false := by rw [he]; simp [hi]
    clear he
    have hm : opMode b = opRawMode b := by simp [opMode, hi]
    rw [hm]; clear hm hi
    have hfd : ∀ (a c : Value) (w : World), (Instr.field 130 (.agg #[a, c]) 1).run Try.prog w = .ok c w := fun _ _ _ => by kernel_rfl
    go_enter Try.func73, Try.ntmps73
    go_wp2_with fail
    refine (specName_any b hb _).mono ?_
    rintro e w1 ⟨rfl, hb1⟩
    go_wp2_with fail
    refine (specOf_any b hb _).mono ?_
    rintro e w2 ⟨rfl, hb2⟩
    go_wp2
    go_ret
    exact ⟨rfl, hb1.trans (hb2.mono hb1.size)⟩

set_option maxRecDepth 100000 in
theorem specSize_any (b : Nat) (hb : b < 256) (w : World) :
    Calls Try.prog 68 #[.int .u8 b] w fun e w' => e = .returned (.int .i64 (opSize b)) ∧ Below w.heap.size w w' := by
  have hs : opSize b = (if opMode b = -1 then 0 else sizeOfM (opMode b)) := byte_all (p := fun b => opSize b = (if opMode b = -1 then 0 else sizeOfM (opMode b))) (by decide +kernel) hb
  rw [hs]; clear hs
  have HM := specMode_any b hb
  obtain ⟨m, hm⟩ : ∃ m, opMode b = m := ⟨_, rfl⟩
  rw [hm] at HM ⊢
  clear hm
  go_enter Try.func68, Try.ntmps68
  go_wp2_with fail
  refine (HM _).mono ?_
  rintro e w1 ⟨rfl, hb1⟩
  clear HM
  go_wp2
  all_goals go_ret
  all_goals refine ⟨?_, hb1⟩
  all_goals simp_all [sizeOfM]

set_option maxRecDepth 100000 in
set_option maxHeartbeats 4000000 in
theorem specKind_by (b : Nat) (s : ByteArray) (m : Int) (HM : ∀ w, Calls Try.prog 73 #[.int .u8 b] w fun e w' => e = .returned (.int .i64 m) ∧ Below w.heap.size w w') (HN : ∀ w, Calls Try.prog 71 #[.int .u8 b] w fun e w' => e = .returned (.string s) ∧ Below w.heap.size w w') (w : World) :
    Calls Try.prog 67 #[.int .u8 b] w fun e w' => e = .returned (.int .i64 (kindL s.toList m)) ∧ Below w.heap.size w w' := by
  go_enter Try.func67, Try.ntmps67
  go_wp2_with fail
  refine (HN _).mono ?_
  rintro e w1 ⟨rfl, hb1⟩
  go_wp2_with fail
  refine (HM _).mono ?_
  rintro e w2 ⟨rfl, hb2⟩
  clear HM HN
  go_wp2
  all_goals go_ret
  all_goals refine ⟨?_, hb1.trans (hb2.mono hb1.size)⟩
  all_goals simp_all [kindL, kindN, kindM]

theorem specKind_any (b : Nat) (hb : b < 256) (w : World) :
    Calls Try.prog 67 #[.int .u8 b] w fun e w' => e = .returned (.int .i64 (opKind b)) ∧ Below w.heap.size w w' := by
  have h := specKind_by b (opName b) (opMode b) (specMode_any b hb) (specName_any b hb) w
  rwa [ByteArray.toList_eq, kindL_op hb] at h

end Go.Proofs.Ytckfdbjjjgfbfaa
