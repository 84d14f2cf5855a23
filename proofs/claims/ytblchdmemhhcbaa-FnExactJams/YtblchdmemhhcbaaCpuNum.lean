/-
  Plain facts on processors and their texts, without any Go.
-/
import Derived.Test.YtblchdmemhhcbaaHexNum
import Derived.Test.YtblchdmemhhcbaaHex
import Derived.Test.YtblchdmemhhcbaaBytes
namespace Go.Proofs.Ytblchdmemhhcbaa
set_option linter.unusedVariables false
set_option linter.unusedSimpArgs false
open Go.RowKit

/-- A processor: five numbers and six flags. -/
structure CpuN where
  A : Nat
  X : Nat
  Y : Nat
  S : Nat
  PC : Nat
  N : Bool
  V : Bool
  D : Bool
  I : Bool
  Z : Bool
  C : Bool

def CpuN.ok (c : CpuN) : Prop := c.A < 256 ∧ c.X < 256 ∧ c.Y < 256 ∧ c.S < 256 ∧ c.PC < 65536

def cpu0 : CpuN := ⟨0, 0, 0, 0, 0, false, false, false, false, false, false⟩
theorem cpu0_ok : cpu0.ok := by unfold CpuN.ok cpu0; simp

abbrev cpuCells (c : CpuN) : Array Value := #[.int .u8 (c.A : Int), .int .u8 (c.X : Int), .int .u8 (c.Y : Int), .int .u8 (c.S : Int), .int .u16 (c.PC : Int), .bool c.N, .bool c.V, .bool c.D, .bool c.I, .bool c.Z, .bool c.C]

abbrev cpuV (c : CpuN) : Value := .agg (cpuCells c)

/-- A letter, or a hyphen. -/
def markS (on : Bool) (c : UInt8) : ByteArray := ⟨#[if on then c else 45]⟩
theorem markS_size (on : Bool) (c : UInt8) : (markS on c).size = 1 := rfl

def flagS (n v d i z c : Bool) : ByteArray := markS n 78 ++ markS v 86 ++ markS d 68 ++ markS i 73 ++ markS z 90 ++ markS c 67
theorem flagS_size (n v d i z c : Bool) : (flagS n v d i z c).size = 6 := by simp [flagS, ByteArray.size_append, markS_size]

def hxS (d x : Nat) : ByteArray := ⟨(hexL d x).toArray⟩
theorem hxS_size (d x : Nat) : (hxS d x).size = d := by simp [hxS, ByteArray.size, hexL_length]

/-- A processor's text. -/
def cpuS (c : CpuN) : ByteArray :=
  ⟨#[65, 61]⟩ ++ hxS 2 c.A ++ ⟨#[32, 88, 61]⟩ ++ hxS 2 c.X ++ ⟨#[32, 89, 61]⟩ ++ hxS 2 c.Y ++ ⟨#[32, 83, 61]⟩ ++ hxS 2 c.S ++ ⟨#[32, 80, 67, 61]⟩ ++ hxS 4 c.PC ++ ⟨#[32]⟩ ++ flagS c.N c.V c.D c.I c.Z c.C

theorem cpuS_size (c : CpuN) : (cpuS c).size = 34 := by
  simp only [cpuS, ByteArray.size_append, hxS_size, flagS_size]
  rfl

end Go.Proofs.Ytblchdmemhhcbaa
