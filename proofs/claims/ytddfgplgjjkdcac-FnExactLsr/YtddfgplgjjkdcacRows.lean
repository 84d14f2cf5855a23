/-
  No cell of these rows narrows 'for every input' (looked for: loops, veiled, ifaces, maps, wideKeys, modest, calm, conditions, laid).
  DERIVED. THE GIVEN ROWS OF THIS SEAT. 4 by the template 'for every input the law returns true; each argument reads behind the call as it read before'; 0 by the template 'total and deterministic' (their statements: YtddfgplgjjkdcacTotals.lean).
  GIVEN WITH THE SEED: the statements are not yours to turn. If you find one false, say at which input.
  Laid BY PROGRAM, IN A SANDBOX (cutbox-rows.mjs): the forced cells as the released guide's own fill.sh prints them over the translation 1d63deb3bd33941c… (all of the seat's roots in one cut). By AI agents, Wed Nov 11 2026. No macro, syntax, notation, axiom, sorry.
-/
import Derived.Test.YtddfgplgjjkdcacChecked
import GoSem.Claim
import GoSem.ClaimJoined
import GoSem.ClaimMapViews
import Derived.JoinedTies
import Derived.KernelRfl
namespace Go.Proofs.Ytddfgplgjjkdcac
/- THE CELL 'sum', in the pinned program and in every row, IS THE sha256 OF THE DUMP (.gsa) THAT YtddfgplgjjkdcacProg.lean LOADS. Nothing in Lean hashes anything: it is a label: what it is worth is what the hold of that sum in a sandbox is worth. -/
noncomputable def Try.pinned : Pinned := { name := "ytddfgplgjjkdcac", sum := "1d63deb3bd33941cb96dbab0c00c20655b701cf90de7fbdc9d011315d6ab7d85", checked := Try.checked }
namespace Rows
def none {H : Type} : Left H := { results := [], args := [] }

/-- 'laws.FnExactLsr': WHATEVER THE INPUT: true; the input reads as it did. -/
def fnExactLsrSpec : ChangeSpec := { name := "fnExactLsr", fn := fun _ => fun
  | [d1, d2] => { results := [.lit (.bool true)], args := [d1, d2] }
  | _ => none }
def fnExactLsrRow : OpenClaim := { program := "ytddfgplgjjkdcac", sum := "1d63deb3bd33941cb96dbab0c00c20655b701cf90de7fbdc9d011315d6ab7d85", func := "loop.example/g00693/laws.FnExactLsr", spec := "fnExactLsr", apart := false }
def FnExactLsrSaid : Prop := fnExactLsrRow.holds Try.pinned (OpenSpec.ofChange fnExactLsrSpec)

/-- ITS FALSE NEIGHBOUR: 'it returns false'. Refute it at one input. -/
def fnExactLsrWrong : ChangeSpec := { name := "fnExactLsr", fn := fun _ => fun
  | [d1, d2] => { results := [.lit (.bool false)], args := [d1, d2] }
  | _ => none }
def FnExactLsrWrongFalsely : Prop := fnExactLsrRow.holds Try.pinned (OpenSpec.ofChange fnExactLsrWrong)

/-- 'laws.FnExactRol': WHATEVER THE INPUT: true; the input reads as it did. -/
def fnExactRolSpec : ChangeSpec := { name := "fnExactRol", fn := fun _ => fun
  | [d1, d2] => { results := [.lit (.bool true)], args := [d1, d2] }
  | _ => none }
def fnExactRolRow : OpenClaim := { program := "ytddfgplgjjkdcac", sum := "1d63deb3bd33941cb96dbab0c00c20655b701cf90de7fbdc9d011315d6ab7d85", func := "loop.example/g00693/laws.FnExactRol", spec := "fnExactRol", apart := false }
def FnExactRolSaid : Prop := fnExactRolRow.holds Try.pinned (OpenSpec.ofChange fnExactRolSpec)

/-- ITS FALSE NEIGHBOUR: 'it returns false'. Refute it at one input. -/
def fnExactRolWrong : ChangeSpec := { name := "fnExactRol", fn := fun _ => fun
  | [d1, d2] => { results := [.lit (.bool false)], args := [d1, d2] }
  | _ => none }
def FnExactRolWrongFalsely : Prop := fnExactRolRow.holds Try.pinned (OpenSpec.ofChange fnExactRolWrong)

/-- 'laws.FnExactRor': WHATEVER THE INPUT: true; the input reads as it did. -/
def fnExactRorSpec : ChangeSpec := { name := "fnExactRor", fn := fun _ => fun
  | [d1, d2] => { results := [.lit (.bool true)], args := [d1, d2] }
  | _ => none }
def fnExactRorRow : OpenClaim := { program := "ytddfgplgjjkdcac", sum := "1d63deb3bd33941cb96dbab0c00c20655b701cf90de7fbdc9d011315d6ab7d85", func := "loop.example/g00693/laws.FnExactRor", spec := "fnExactRor", apart := false }
def FnExactRorSaid : Prop := fnExactRorRow.holds Try.pinned (OpenSpec.ofChange fnExactRorSpec)

/-- ITS FALSE NEIGHBOUR: 'it returns false'. Refute it at one input. -/
def fnExactRorWrong : ChangeSpec := { name := "fnExactRor", fn := fun _ => fun
  | [d1, d2] => { results := [.lit (.bool false)], args := [d1, d2] }
  | _ => none }
def FnExactRorWrongFalsely : Prop := fnExactRorRow.holds Try.pinned (OpenSpec.ofChange fnExactRorWrong)

/-- 'laws.FnExactBitTest': WHATEVER THE INPUT: true; the input reads as it did. -/
def fnExactBitTestSpec : ChangeSpec := { name := "fnExactBitTest", fn := fun _ => fun
  | [d1, d2, d3] => { results := [.lit (.bool true)], args := [d1, d2, d3] }
  | _ => none }
def fnExactBitTestRow : OpenClaim := { program := "ytddfgplgjjkdcac", sum := "1d63deb3bd33941cb96dbab0c00c20655b701cf90de7fbdc9d011315d6ab7d85", func := "loop.example/g00693/laws.FnExactBitTest", spec := "fnExactBitTest", apart := false }
def FnExactBitTestSaid : Prop := fnExactBitTestRow.holds Try.pinned (OpenSpec.ofChange fnExactBitTestSpec)

/-- ITS FALSE NEIGHBOUR: 'it returns false'. Refute it at one input. -/
def fnExactBitTestWrong : ChangeSpec := { name := "fnExactBitTest", fn := fun _ => fun
  | [d1, d2, d3] => { results := [.lit (.bool false)], args := [d1, d2, d3] }
  | _ => none }
def FnExactBitTestWrongFalsely : Prop := fnExactBitTestRow.holds Try.pinned (OpenSpec.ofChange fnExactBitTestWrong)

/- THE SECOND FORM. 'bulk': how many values and letters a reading holds, each counted each time it is reached (what is shared counts as often as it is met; a slice's spare places count too). A statement '..UptoSaid' is the law's where the arguments, and the package variables that the reading takes, are together of bulk at most 1048576: NARROWER than '..Said'. Prove '..Said' where nothing that the law and all that it calls make is longer than what came in: it says more and counts as full. Else prove '..UptoSaid'. A law counts once. -/
mutual
def uptoBulk {H : Type} : DataW H → Nat
  | .lit (.string bytes) => bytes.length + 1
  | .lit _ => 1
  | .nil => 1
  | .ptr d => uptoBulk d + 1
  | .slice elems spare => uptoBulkAll elems + uptoBulkAll spare + 1
  | .agg parts => uptoBulkAll parts + 1
  | .iface _ d => uptoBulk d + 1
  | .map entries => uptoBulkEntries entries + 1
  | .held _ => 1
def uptoBulkAll {H : Type} : List (DataW H) → Nat
  | [] => 0
  | d :: r => uptoBulk d + uptoBulkAll r
def uptoBulkEntries {H : Type} : List (Lit × DataW H) → Nat
  | [] => 0
  | x :: r => uptoBulkEntry x + uptoBulkEntries r
def uptoBulkEntry {H : Type} : Lit × DataW H → Nat
  | (.string bytes, d) => bytes.length + uptoBulk d + 1
  | (_, d) => uptoBulk d + 1
 end
def uptoSmall : (H : Type) → List (DataW H) → Bool := fun _ ds => decide (uptoBulkAll ds ≤ 1048576)
def OpenSpec.upto (s : _root_.Go.ChangeSpec) : _root_.Go.OpenSpec := { _root_.Go.OpenSpec.ofChange s with cond := some uptoSmall }

/-- 'laws.FnExactLsr', WHERE WHAT IT READS IS OF BULK AT MOST 1048576: true; the input reads as it did. -/
def fnExactLsrUptoRow : OpenClaim := { program := "ytddfgplgjjkdcac", sum := "1d63deb3bd33941cb96dbab0c00c20655b701cf90de7fbdc9d011315d6ab7d85", func := "loop.example/g00693/laws.FnExactLsr", spec := "fnExactLsr", apart := false, narrowed := true }
def FnExactLsrUptoSaid : Prop := fnExactLsrUptoRow.holds Try.pinned (OpenSpec.upto fnExactLsrSpec)

/-- 'laws.FnExactRol', WHERE WHAT IT READS IS OF BULK AT MOST 1048576: true; the input reads as it did. -/
def fnExactRolUptoRow : OpenClaim := { program := "ytddfgplgjjkdcac", sum := "1d63deb3bd33941cb96dbab0c00c20655b701cf90de7fbdc9d011315d6ab7d85", func := "loop.example/g00693/laws.FnExactRol", spec := "fnExactRol", apart := false, narrowed := true }
def FnExactRolUptoSaid : Prop := fnExactRolUptoRow.holds Try.pinned (OpenSpec.upto fnExactRolSpec)

/-- 'laws.FnExactRor', WHERE WHAT IT READS IS OF BULK AT MOST 1048576: true; the input reads as it did. -/
def fnExactRorUptoRow : OpenClaim := { program := "ytddfgplgjjkdcac", sum := "1d63deb3bd33941cb96dbab0c00c20655b701cf90de7fbdc9d011315d6ab7d85", func := "loop.example/g00693/laws.FnExactRor", spec := "fnExactRor", apart := false, narrowed := true }
def FnExactRorUptoSaid : Prop := fnExactRorUptoRow.holds Try.pinned (OpenSpec.upto fnExactRorSpec)

/-- 'laws.FnExactBitTest', WHERE WHAT IT READS IS OF BULK AT MOST 1048576: true; the input reads as it did. -/
def fnExactBitTestUptoRow : OpenClaim := { program := "ytddfgplgjjkdcac", sum := "1d63deb3bd33941cb96dbab0c00c20655b701cf90de7fbdc9d011315d6ab7d85", func := "loop.example/g00693/laws.FnExactBitTest", spec := "fnExactBitTest", apart := false, narrowed := true }
def FnExactBitTestUptoSaid : Prop := fnExactBitTestUptoRow.holds Try.pinned (OpenSpec.upto fnExactBitTestSpec)

end Rows
end Go.Proofs.Ytddfgplgjjkdcac
