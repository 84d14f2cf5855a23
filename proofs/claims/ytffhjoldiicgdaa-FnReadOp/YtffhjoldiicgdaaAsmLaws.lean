/-
  The exact laws of chapter 4, walked over any program whose functions keep these contracts.
-/
import Derived.Test.YtffhjoldiicgdaaAsmD
import Derived.Test.YtffhjoldiicgdaaAsmE
import Derived.Test.YtffhjoldiicgdaaAsmF
import Derived.Test.YtffhjoldiicgdaaAsmRows
namespace Go.Proofs.Ytffhjoldiicgdaa
set_option linter.unusedVariables false
set_option linter.unusedSimpArgs false
open Go.RowKit

def ImplShow : Prop := ∀ (a : Option Addr) (n c x0 x1 x2 pc : Nat) (w : World), x0 < 256 → x1 < 256 → x2 < 256 → pc < 65536 → n ≤ c → n ≤ 1048576 → Three w a n x0 x1 x2 → Calls Try.prog 11 #[.slice a n c, .int .u16 pc] w fun e w' => e = .returned (.string (showOp n x0 x1 x2 pc)) ∧ Below w.heap.size w w'

def ImplRead : Prop := ∀ (s : ByteArray) (pc : Nat) (w : World), pc < 65536 → s.size ≤ 1048576 → Calls Try.prog 13 #[.string s, .int .u16 pc] w fun e w' => ∃ v, e = .returned (.tuple #[v, .bool (readOp s pc).isSome]) ∧ OwnB w' w.heap.size v ((readOp s pc).getD []) ∧ Below w.heap.size w w'

def ImplList : Prop := ∀ (a : Option Addr) (c org : Nat) (L : List Nat) (w : World), L.length ≤ c → L.length ≤ 1048576 → org < 65536 → RowB w a L → Calls Try.prog 17 #[.slice a L.length c, .int .u16 org] w fun e w' => ∃ v, e = .returned v ∧ OwnStrs w' w.heap.size v (listing L org) ∧ Below w.heap.size w w'

def ImplAsm : Prop := ∀ (s : ByteArray) (org : Nat) (w : World), org < 65536 → s.size ≤ 1048576 → Calls Try.prog 18 #[.string s, .int .u16 org] w fun e w' => ∃ v, e = .returned (.tuple #[v, .int .i64 (((assemble s org).2 : Nat) : Int)]) ∧ OwnB w' w.heap.size v (assemble s org).1 ∧ Below w.heap.size w w'

end Go.Proofs.Ytffhjoldiicgdaa
