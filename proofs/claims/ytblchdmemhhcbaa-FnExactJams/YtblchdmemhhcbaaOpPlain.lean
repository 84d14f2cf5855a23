/-
  Plain facts on operations, without any Go program: a byte that is an operation comes back from its name and mode.
-/
import Derived.Test.YtblchdmemhhcbaaOpD
namespace Go.Proofs.Ytblchdmemhhcbaa
set_option linter.unusedVariables false
set_option linter.unusedSimpArgs false

/-- A name and a mode are of one byte. -/
theorem op_one {x y : Nat} (hx : x < 256) (hy : y < 256) (h : opId x ≠ 0) (h1 : opId x = opId y) (h2 : opMode x = opMode y) : x = y := by
  have key : ∀ a : Fin 256, ∀ b : Fin 256, opId a.1 = 0 ∨ opId a.1 ≠ opId b.1 ∨ opMode a.1 ≠ opMode b.1 ∨ a.1 = b.1 := by decide +kernel
  rcases key ⟨x, hx⟩ ⟨y, hy⟩ with e | e | e | e
  · exact absurd e h
  · exact absurd h1 e
  · exact absurd h2 e
  · exact e

theorem hasOp_self (b : Nat) : hasOp (opName b) (opMode b) b = true := by simp [hasOp]

theorem hasOp_only {b i : Nat} (hb : b < 256) (hi : i < 256) (h : opId b ≠ 0) (hh : hasOp (opName b) (opMode b) i = true) : i = b := by
  unfold hasOp at hh
  rw [Bool.and_eq_true] at hh
  have hn : opId i = opId b := by
    have e := eq_of_beq hh.1
    rw [ByteArray.toList_eq, ByteArray.toList_eq] at e
    have := opTx_data (opId_le hi) (opId_le hb)
    unfold opName at e
    rw [e] at this
    simpa using this
  exact (op_one hb hi h hn.symm (eq_of_beq hh.2).symm).symm

theorem codeFrom_first {s : ByteArray} {m : Int} {x : Nat} (hx : x < 256) (hh : hasOp s m x = true) (hu : ∀ i, i < 256 → hasOp s m i = true → i = x) : ∀ (n j : Nat), j + n = 256 → j ≤ x → codeFrom s m n j = x
  | 0, j, h1, h2 => by omega
  | n + 1, j, h1, h2 => by
    rw [codeFrom]
    by_cases h : hasOp s m j = true
    · rw [if_pos h, hu j (by omega) h]
    · rw [if_neg h]
      refine codeFrom_first hx hh hu n (j + 1) (by omega) ?_
      have : j ≠ x := fun e => h (by rw [e]; exact hh)
      omega

theorem code_back {b : Nat} (hb : b < 256) (h : opId b ≠ 0) : codeOf (opName b) (opMode b) = b := by
  unfold codeOf
  rw [opName_empty hb, if_neg (by simpa using h)]
  exact codeFrom_first hb (hasOp_self b) (fun i hi hh => hasOp_only hb hi h hh) 256 0 (by omega) (by omega)

theorem op_facts {b : Nat} (hb : b < 256) : (opId b = 0 → opMode b = -1 ∧ opSize b = 0 ∧ opKind b = 0) ∧ (opId b ≠ 0 → 1 ≤ opSize b ∧ opSize b ≤ 3 ∧ opKind b ≠ 0) :=
  byte_all (p := fun b => (opId b = 0 → opMode b = -1 ∧ opSize b = 0 ∧ opKind b = 0) ∧ (opId b ≠ 0 → 1 ≤ opSize b ∧ opSize b ≤ 3 ∧ opKind b ≠ 0)) (by decide +kernel) hb

end Go.Proofs.Ytblchdmemhhcbaa
