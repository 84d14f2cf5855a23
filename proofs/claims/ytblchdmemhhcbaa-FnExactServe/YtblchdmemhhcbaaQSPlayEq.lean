/-
  What the program's player plays is what the model's operation does: plain numbers alone.
-/
import Derived.Test.YtblchdmemhhcbaaQSPlayNum
import Derived.Test.YtblchdmemhhcbaaProg

namespace Go.Proofs.Ytblchdmemhhcbaa
set_option linter.unusedVariables false
set_option linter.unusedSimpArgs false
open Go.RowKit

theorem rd_of (b : BusN) {a a' : Nat} (h : a % 65536 = a' % 65536) : b.rd a = b.rd a' := by unfold BusN.rd BusN.get BusN.spot; rw [h]
theorem get_of (b : BusN) {a a' : Nat} (h : a % 65536 = a' % 65536) : b.get a = b.get a' := by unfold BusN.get BusN.spot; rw [h]
theorem get_rd (b : BusN) (a x : Nat) : (b.rd a).get x = b.get x := rfl
theorem stk_of {s s' : Nat} (h : s % 256 = s' % 256) : stk s = stk s' := by unfold stk; rw [h]
theorem St.ext' {c c' : CpuN} {b b' : BusN} (h1 : c = c') (h2 : b = b') : (⟨c, b⟩ : St) = ⟨c', b'⟩ := by rw [h1, h2]

theorem serve_eq (c : CpuN) (hc : c.ok) (b : BusN) (nmi : Bool) : (⟨c, b⟩ : St).idle.idle.inter (if nmi then 65530 else 65534) false = ⟨(serveN b c nmi).1, (serveN b c nmi).2⟩ := by
  obtain ⟨hA, hX, hY, hS, hP⟩ := hc
  have rd1 : ∀ b : BusN, b.rd ((c.PC + 1) % 65536) = b.rd (c.PC + 1) := fun b => rd_of b (by omega)
  have get1 : ∀ b : BusN, b.get ((c.PC + 1) % 65536) = b.get (c.PC + 1) := fun b => get_of b (by omega)
  have rd4 : ∀ b : BusN, b.rd ((c.PC + 2) % 65536) = b.rd (c.PC + 2) := fun b => rd_of b (by omega)
  have get4 : ∀ b : BusN, b.get ((c.PC + 2) % 65536) = b.get (c.PC + 2) := fun b => get_of b (by omega)
  have e2 : ((c.PC + 1) % 65536 + 1) % 65536 = (c.PC + 2) % 65536 := by omega
  have s1 : stk (c.S % 256) = stk c.S := stk_of (by omega)
  have s2 : stk ((c.S + 255) % 256) = stk (c.S + 255) := stk_of (by omega)
  have s3 : stk (((c.S + 255) % 256 + 255) % 256) = stk (c.S + 254) := stk_of (by omega)
  have s4 : stk ((c.S + 1) % 256 + 1) = stk (c.S + 2) := stk_of (by omega)
  have s5 : stk (((c.S + 1) % 256 + 1) % 256 + 1) = stk (c.S + 3) := stk_of (by omega)
  have t2 : ((c.S + 255) % 256 + 255) % 256 = (c.S + 254) % 256 := by omega
  have t3 : ((c.S + 254) % 256 + 255) % 256 = (c.S + 253) % 256 := by omega
  have t4 : ((c.S + 1) % 256 + 1) % 256 = (c.S + 2) % 256 := by omega
  have t5 : ((c.S + 2) % 256 + 1) % 256 = (c.S + 3) % 256 := by omega
  have s6 : stk ((c.S + 254) % 256) = stk (c.S + 254) := stk_of (by omega)
  have t6 : (c.PC + 2) % 65536 / 256 % 256 = (c.PC + 2) % 65536 / 256 := by omega
  have p6 : inPage 65534 65535 = 65535 := rfl
  have p7 : inPage 65530 65531 = 65531 := rfl
  have t7 : c.PC / 256 % 256 = c.PC / 256 := by omega
  have s7 : stk ((c.S + 2) % 256 + 1) = stk (c.S + 3) := stk_of (by omega)
  cases nmi <;> simp [serveN, pushN, St.idle, St.pushPC, St.push, St.inter, St.readW, CpuN.pk, rd1, get1, rd4, get4, e2, s1, s2, s3, s4, s5, s6, s7, t2, t3, t4, t5, t6, t7, p6, p7, get_rd]

end Go.Proofs.Ytblchdmemhhcbaa
