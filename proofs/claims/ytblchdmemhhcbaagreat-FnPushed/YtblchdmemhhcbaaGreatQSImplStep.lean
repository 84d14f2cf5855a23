/-
  Contracts over the program: impl.Step at any arguments.
-/
import Derived.Test.YtblchdmemhhcbaaGreatQSPlayEq
import Derived.Test.YtblchdmemhhcbaaGreatQSOpI
import Derived.Test.YtblchdmemhhcbaaGreatQSStepRel
import Derived.Test.YtblchdmemhhcbaaGreatQSPlayX
namespace Go.Proofs.YtblchdmemhhcbaaGreat
set_option linter.unusedVariables false
set_option linter.unusedSimpArgs false
open Go.RowKit

theorem op_k7k {b : Nat} (hb : b < 256) : (opKind b = 7 → opId b = 28) ∧ (opKind b = 8 → opId b = 30) ∧ (opKind b = 9 → opId b = 29) ∧ (opKind b = 10 → opId b = 27) ∧ (opKind b = 6 → opId b = 32) :=
  byte_all (p := fun b => (opKind b = 7 → opId b = 28) ∧ (opKind b = 8 → opId b = 30) ∧ (opKind b = 9 → opId b = 29) ∧ (opKind b = 10 → opId b = 27) ∧ (opKind b = 6 → opId b = 32)) (by decide +kernel) hb

theorem op_sz {b : Nat} (hb : b < 256) : opKind b ≠ 0 → opSize b = sizeOfM (opMode b) :=
  byte_all (p := fun b => opKind b ≠ 0 → opSize b = sizeOfM (opMode b)) (by decide +kernel) hb

theorem opB_go {b : BusN} {c : CpuN} {n : Nat} {l : List UInt8} (h1 : opKind n ≠ 1) (h2 : opKind n ≠ 2) (h3 : opKind n ≠ 3) (h4 : opKind n ≠ 4) (h5 : opKind n ≠ 5) (hl : (opName n).toList = l) : opB b c n = goN b c l (opMode n) := by
  unfold opB
  rw [if_neg h1, if_neg h5, if_neg (by omega), hl]

theorem kindP_eq (c : CpuN) (hc : c.ok) (b : BusN) (hb : ∀ a, b.get a < 256) (n : Nat) (hn : n < 256) (h0 : opKind n ≠ 0) : (⟨{ c with PC := (c.PC + 1) % 65536 }, b⟩ : St).kindP n = ⟨(opB b c n).1, (opB b c n).2⟩ := by
  obtain ⟨o7, o8, o9, o10, o6⟩ := op_k7k hn
  rcases op_kall hn with h | h | h | h | h | h | h | h | h | h | h | h | h
  · exact absurd h h0
  · unfold St.kindP opB
    simp only [h, if_true]
    rw [impLq]
    exact St.ext' rfl (rd_of _ (by omega))
  · obtain ⟨_, hm⟩ := op_k2 hn h
    have e : opB b c n = dataN b c n := by unfold opB; rw [if_neg (by omega), if_neg (by omega), if_pos (by omega)]
    rw [e]
    exact data_eq c b hb n (placeOr hm) (op_sz hn h0) (.inl h)
  · obtain ⟨_, hm⟩ := op_k3 hn h
    have hne : opMode n ≠ 2 := by have := place_or hm; omega
    have e : opB b c n = dataN b c n := by unfold opB; rw [if_neg (by omega), if_neg (by omega), if_pos (by omega)]
    rw [e]
    exact data_eq c b hb n (placeOr (.inr hm)) (op_sz hn h0) (.inr (.inl ⟨h, hne⟩))
  · obtain ⟨_, hm⟩ := op_k4 hn h
    have hne : opMode n ≠ 2 := by have := place_or hm; omega
    have e : opB b c n = dataN b c n := by unfold opB; rw [if_neg (by omega), if_neg (by omega), if_pos (by omega)]
    rw [e]
    exact data_eq c b hb n (placeOr (.inr hm)) (op_sz hn h0) (.inr (.inr ⟨h, hne⟩))
  · have e : opB b c n = branchN b c (opName n).toList := by unfold opB; rw [if_neg (by omega), if_pos h]
    rw [e, ← branch_eq c hc b]
    unfold St.kindP
    simp only [h, Int.reduceEq, if_true, if_false, reduceIte]
  · have e : (opName n).toList = [74, 77, 80] := by unfold opName; rw [o6 h]; rw [ByteArray.toList_eq]; rfl
    rw [opB_go (by omega) (by omega) (by omega) (by omega) (by omega) e]
    unfold St.kindP
    simp only [h, Int.reduceEq, if_true, if_false, reduceIte]
    rcases op_k6k hn h with hm | hm <;> rw [hm]
    · exact eq_JMPa c hc b hb
    · exact eq_JMPi c hc b hb
  · have e : (opName n).toList = [74, 83, 82] := by unfold opName; rw [o7 h]; rw [ByteArray.toList_eq]; rfl
    rw [opB_go (by omega) (by omega) (by omega) (by omega) (by omega) e]
    unfold St.kindP
    simp only [h, Int.reduceEq, if_true, if_false, reduceIte]
    exact eq_JSR c hc b hb _
  · have e : (opName n).toList = [82, 84, 83] := by unfold opName; rw [o8 h]; rw [ByteArray.toList_eq]; rfl
    rw [opB_go (by omega) (by omega) (by omega) (by omega) (by omega) e]
    unfold St.kindP
    simp only [h, Int.reduceEq, if_true, if_false, reduceIte]
    exact eq_RTS c hc b hb _
  · have e : (opName n).toList = [82, 84, 73] := by unfold opName; rw [o9 h]; rw [ByteArray.toList_eq]; rfl
    rw [opB_go (by omega) (by omega) (by omega) (by omega) (by omega) e]
    unfold St.kindP
    simp only [h, Int.reduceEq, if_true, if_false, reduceIte]
    exact eq_RTI c hc b hb _
  · have e : (opName n).toList = [66, 82, 75] := by unfold opName; rw [o10 h]; rw [ByteArray.toList_eq]; rfl
    rw [opB_go (by omega) (by omega) (by omega) (by omega) (by omega) e]
    unfold St.kindP
    simp only [h, Int.reduceEq, if_true, if_false, reduceIte]
    exact eq_BRK c hc b hb _
  · rcases op_k11 hn h with hi | hi
    · have e : (opName n).toList = [80, 72, 65] := by unfold opName; rw [hi]; rw [ByteArray.toList_eq]; rfl
      rw [opB_go (by omega) (by omega) (by omega) (by omega) (by omega) e]
      unfold St.kindP
      simp only [h, Int.reduceEq, if_true, if_false, reduceIte, e]
      exact eq_PHA c hc b hb _
    · have e : (opName n).toList = [80, 72, 80] := by unfold opName; rw [hi]; rw [ByteArray.toList_eq]; rfl
      rw [opB_go (by omega) (by omega) (by omega) (by omega) (by omega) e]
      unfold St.kindP
      simp only [h, Int.reduceEq, if_true, if_false, reduceIte, e]
      exact eq_PHP c hc b hb _
  · rcases op_k12 hn h with hi | hi
    · have e : (opName n).toList = [80, 76, 65] := by unfold opName; rw [hi]; rw [ByteArray.toList_eq]; rfl
      rw [opB_go (by omega) (by omega) (by omega) (by omega) (by omega) e]
      unfold St.kindP
      simp only [h, Int.reduceEq, if_true, if_false, reduceIte, e]
      exact eq_PLA c hc b hb _
    · have e : (opName n).toList = [80, 76, 80] := by unfold opName; rw [hi]; rw [ByteArray.toList_eq]; rfl
      rw [opB_go (by omega) (by omega) (by omega) (by omega) (by omega) e]
      unfold St.kindP
      simp only [h, Int.reduceEq, if_true, if_false, reduceIte, e]
      exact eq_PLP c hc b hb _

theorem stepP_eq (c : CpuN) (hc : c.ok) (b : BusN) (hb : ∀ a, b.get a < 256) (n : Nat) (hn : b.get c.PC = n) (h0 : opKind n ≠ 0) : (⟨c, b⟩ : St).stepP n = ⟨(opN b c).1, (opN b c).2⟩ := by
  unfold St.stepP
  rw [if_neg h0, opN_eq, hn]
  exact kindP_eq c hc (b.rd c.PC) hb n (by rw [← hn]; exact hb _) h0

end Go.Proofs.YtblchdmemhhcbaaGreat

namespace Go.Proofs.YtblchdmemhhcbaaGreat
set_option linter.unusedVariables false
set_option linter.unusedSimpArgs false
open Go.RowKit

theorem implStep : ImplStep := by
  intro c a cap L w hc _ hcap hr
  cases h : ramN L.length with
  | false =>
    have e : stepN c L = (cpu0, ⟨[], []⟩) := by unfold stepN; rw [h]; rfl
    rw [e]
    exact implStep_no c hc a cap L h w hr hcap
  | true =>
    have hp : (⟨L, []⟩ : BusN).get c.PC = peekL L c.PC := get_peek h hc.2.2.2.2
    have hb : ∀ x, (⟨L, []⟩ : BusN).get x < 256 := fun x => hr.byte' _
    by_cases k0 : opKind (peekL L c.PC) = 0
    · have e : stepN c L = (c, ⟨L, []⟩) := by
        unfold stepN
        rw [h, if_pos rfl, if_pos]
        unfold jamsN
        rw [h, Bool.true_and]
        exact decide_eq_true ((op_k0 (peekL_lt hr c.PC)).1 k0)
      rw [e]
      exact implStep_yes c hc a cap L h w hr hcap (t := ⟨c, ⟨L, []⟩⟩) (by unfold St.stepP; rw [if_pos k0])
    · have e : stepN c L = opN ⟨L, []⟩ c := by
        unfold stepN
        rw [h, if_pos rfl, if_neg]
        unfold jamsN
        rw [h, Bool.true_and]
        simp only [decide_eq_true_eq]
        exact fun hh => k0 ((op_k0 (peekL_lt hr c.PC)).2 hh)
      rw [e]
      exact implStep_yes c hc a cap L h w hr hcap (stepP_eq c hc ⟨L, []⟩ hb _ hp k0)

end Go.Proofs.YtblchdmemhhcbaaGreat
