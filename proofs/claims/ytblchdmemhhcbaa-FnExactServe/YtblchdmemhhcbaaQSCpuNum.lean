/-
  Plain facts on processors and their texts, without any Go.
-/
import Derived.Laws.RangeAny
import Derived.Laws.Concat
import Derived.Laws.MakeOwn
import Derived.Laws.BytesArg
import Derived.Test.YtblchdmemhhcbaaRows
import Derived.WalkKit
import Derived.WalkSpells
import Derived.WalkLawsBesides
import Derived.Lib.Hide
import Derived.Deep.DeepMust
import Derived.Test.YtblchdmemhhcbaaQSBytes
namespace Go.Proofs.Ytblchdmemhhcbaa
set_option linter.unusedVariables false
set_option linter.unusedSimpArgs false

/-- The number of a digit's sign, -1 where it is none. -/
def dig (c : Int) : Int := if 48 ≤ c ∧ c ≤ 57 then c - 48 else if 65 ≤ c ∧ c ≤ 70 then c - 55 else -1

/-- Digits of a base read onto n; -1 where a sign is no digit of the base. -/
def rd (base : Int) : List UInt8 → Int → Int
  | [], n => n
  | c :: r, n => if dig (c.toNat : Int) < 0 ∨ base ≤ dig (c.toNat : Int) then -1 else rd base r (n * base + dig (c.toNat : Int))

end Go.Proofs.Ytblchdmemhhcbaa

namespace Go.Proofs.Ytblchdmemhhcbaa
set_option linter.unusedVariables false
set_option linter.unusedSimpArgs false
open Go.RowKit

/-- A processor: five numbers and six flags. -/
structure CpuN where
  A : Nat
  X : Nat
  Y : Nat
  S : Nat
  PC : Nat
  N : Bool
  V : Bool
  D : Bool
  I : Bool
  Z : Bool
  C : Bool

def CpuN.ok (c : CpuN) : Prop := c.A < 256 ∧ c.X < 256 ∧ c.Y < 256 ∧ c.S < 256 ∧ c.PC < 65536

def cpu0 : CpuN := ⟨0, 0, 0, 0, 0, false, false, false, false, false, false⟩
theorem cpu0_ok : cpu0.ok := by unfold CpuN.ok cpu0; simp

abbrev cpuCells (c : CpuN) : Array Value := #[.int .u8 (c.A : Int), .int .u8 (c.X : Int), .int .u8 (c.Y : Int), .int .u8 (c.S : Int), .int .u16 (c.PC : Int), .bool c.N, .bool c.V, .bool c.D, .bool c.I, .bool c.Z, .bool c.C]

abbrev cpuV (c : CpuN) : Value := .agg (cpuCells c)

end Go.Proofs.Ytblchdmemhhcbaa
