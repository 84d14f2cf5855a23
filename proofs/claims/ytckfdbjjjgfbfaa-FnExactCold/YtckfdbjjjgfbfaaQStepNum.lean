/-
  A step, cycle by cycle, in plain numbers: what the document's chapter 6 says, without any Go.
-/
import Derived.Test.YtckfdbjjjgfbfaaQCpuNum
import Derived.Test.YtckfdbjjjgfbfaaProg
import Derived.Test.YtckfdbjjjgfbfaaQAluNum
namespace Go.Proofs.Ytckfdbjjjgfbfaa
set_option linter.unusedVariables false
set_option linter.unusedSimpArgs false
open Go.RowKit

/-- A cycle. -/
structure CycN where
  addr : Nat
  data : Nat
  wr : Bool

def CycN.ok (c : CycN) : Prop := c.addr < 65536 ∧ c.data < 256

def cycCells (c : CycN) : List Value := [.int .u16 (c.addr : Int), .int .u8 (c.data : Int), .bool c.wr]

/-- A bus: memory, and the cycles that were. -/
structure BusN where
  mem : List Nat
  log : List CycN

def BusN.spot (b : BusN) (a : Nat) : Nat := a % 65536 % b.mem.length
def BusN.get (b : BusN) (a : Nat) : Nat := b.mem.getD (b.spot a) 0
def BusN.rd (b : BusN) (a : Nat) : BusN := ⟨b.mem, b.log ++ [⟨a % 65536, b.get a, false⟩]⟩
def BusN.put (b : BusN) (a d : Nat) : BusN := ⟨b.mem.set (b.spot a) d, b.log ++ [⟨a % 65536, d, true⟩]⟩

def stk (s : Nat) : Nat := 256 + s % 256
def word (lo hi : Nat) : Nat := lo + 256 * hi

end Go.Proofs.Ytckfdbjjjgfbfaa
