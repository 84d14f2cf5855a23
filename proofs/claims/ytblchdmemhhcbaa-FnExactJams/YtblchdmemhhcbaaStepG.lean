/-
  Contracts over the program: the model's jumps, calls, returns and what is pushed (l06Go).
-/
import Derived.Test.YtblchdmemhhcbaaStepF
namespace Go.Proofs.Ytblchdmemhhcbaa
set_option linter.unusedVariables false
set_option linter.unusedSimpArgs false
open Go.RowKit

theorem page_one (u v : Nat) (h : u / 256 * 256 + (u + 1) % 256 = v) : (u : Int) / 256 * 256 + ((u : Int) + 1) % 256 = (v : Int) := by omega

theorem push_at (F : Nat → Prop) (B : Nat) (b : BusN) (c : CpuN) (hc : c.ok) (pc : Nat) (hpc : pc < 65536) (brk : Bool) (vec : Nat) (hvec : vec < 65536) (hf : b.fit 20) (w : World) (hF : ∀ i, w.heap.size ≤ i → F i) (h : BusAt w F B b) (x y : Int) (hx : x = (pc : Int)) (hy : y = (vec : Int)) {r : CpuN × BusN} (hr : pushN b c pc brk vec = r) :
    Calls Try.prog 22 #[.pointer (some ⟨B, 0, none⟩), cpuV c, .int .i64 x, .bool brk, .int .i64 y] w fun e w' => e = .returned (cpuV r.1) ∧ BusAt w' F B r.2 ∧ Turn F w w' := by
  subst hr
  subst hx
  subst hy
  exact push_any F B b c hc pc hpc brk vec hvec hf w hF h

end Go.Proofs.Ytblchdmemhhcbaa
