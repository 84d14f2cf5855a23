/-
  Plain facts on processors and their texts, without any Go.
-/
import Derived.Test.YtckfdbjjjgfbfaaQNum
import Derived.Laws.Concat
import Derived.Laws.MakeOwn
import Derived.Laws.BytesArg
import Derived.Test.YtckfdbjjjgfbfaaQDig
import Derived.Test.YtckfdbjjjgfbfaaQBytes
namespace Go.Proofs.Ytckfdbjjjgfbfaa
set_option linter.unusedVariables false
set_option linter.unusedSimpArgs false
open Go.RowKit

/-- A processor: five numbers and six flags. -/
structure CpuN where
  A : Nat
  X : Nat
  Y : Nat
  S : Nat
  PC : Nat
  N : Bool
  V : Bool
  D : Bool
  I : Bool
  Z : Bool
  C : Bool

def CpuN.ok (c : CpuN) : Prop := c.A < 256 ∧ c.X < 256 ∧ c.Y < 256 ∧ c.S < 256 ∧ c.PC < 65536

def cpu0 : CpuN := ⟨0, 0, 0, 0, 0, false, false, false, false, false, false⟩
theorem cpu0_ok : cpu0.ok := by unfold CpuN.ok cpu0; simp

abbrev cpuCells (c : CpuN) : Array Value := #[.int .u8 (c.A : Int), .int .u8 (c.X : Int), .int .u8 (c.Y : Int), .int .u8 (c.S : Int), .int .u16 (c.PC : Int), .bool c.N, .bool c.V, .bool c.D, .bool c.I, .bool c.Z, .bool c.C]

abbrev cpuV (c : CpuN) : Value := .agg (cpuCells c)

end Go.Proofs.Ytckfdbjjjgfbfaa
