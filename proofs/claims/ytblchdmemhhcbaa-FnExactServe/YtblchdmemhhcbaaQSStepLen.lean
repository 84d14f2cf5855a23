/-
  Plain facts on a step, without any Go: how many bytes its memory has, how many cycles there are.
-/
import Derived.Test.YtblchdmemhhcbaaQSStepS
namespace Go.Proofs.Ytblchdmemhhcbaa
set_option linter.unusedVariables false
set_option linter.unusedSimpArgs false
open Go.RowKit

/-- As many bytes, and not more than n cycles more. -/
def Grew (b b' : BusN) (n : Nat) : Prop := b'.mem.length = b.mem.length ∧ b'.log.length ≤ b.log.length + n

theorem Grew.same (b : BusN) (n : Nat) : Grew b b n := ⟨rfl, by omega⟩
theorem Grew.rd {b b' : BusN} {n a : Nat} (h : Grew b b' n) : Grew b (b'.rd a) (n + 1) := ⟨h.1, by have := h.2; simp [BusN.rd]; omega⟩
theorem Grew.put {b b' : BusN} {n a d : Nat} (h : Grew b b' n) : Grew b (b'.put a d) (n + 1) := ⟨by have := h.1; simp [BusN.put]; exact this, by have := h.2; simp [BusN.put]; omega⟩
theorem Grew.mono {b b' : BusN} {n m : Nat} (h : Grew b b' n) (hm : n ≤ m) : Grew b b' m := ⟨h.1, by have := h.2; omega⟩

theorem pushN_grew {b0 b : BusN} {n : Nat} (h : Grew b0 b n) (c : CpuN) (pc : Nat) (brk : Bool) (v : Nat) : Grew b0 (pushN b c pc brk v).2 (n + 5) := h.put.put.put.rd.rd

theorem servedN_len (c : CpuN) (L : List Nat) (nmi : Bool) : (servedN c L nmi).2.mem.length ≤ L.length ∧ (servedN c L nmi).2.log.length ≤ 8 := by
  unfold servedN
  split
  · have h := pushN_grew (((Grew.same ⟨L, []⟩ 0).rd (a := c.PC)).rd (a := c.PC)) c c.PC false (if nmi then 65530 else 65534)
    exact ⟨Nat.le_of_eq h.1, Nat.le_trans h.2 (by simp)⟩
  · exact ⟨by simp, by simp⟩

end Go.Proofs.Ytblchdmemhhcbaa
