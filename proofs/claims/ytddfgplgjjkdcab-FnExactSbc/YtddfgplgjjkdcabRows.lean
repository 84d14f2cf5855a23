/-
  No cell of these rows narrows 'for every input' (looked for: loops, veiled, ifaces, maps, wideKeys, modest, calm, conditions, laid).
  DERIVED. THE GIVEN ROWS OF THIS SEAT. 6 by the template 'for every input the law returns true; each argument reads behind the call as it read before'; 0 by the template 'total and deterministic' (their statements: YtddfgplgjjkdcabTotals.lean).
  GIVEN WITH THE SEED: the statements are not yours to turn. If you find one false, say at which input.
  Laid BY PROGRAM, IN A SANDBOX (cutbox-rows.mjs): the forced cells as the released guide's own fill.sh prints them over the translation 18eb27eaa730085e… (all of the seat's roots in one cut). By AI agents, Wed Nov 11 2026. No macro, syntax, notation, axiom, sorry.
-/
import Derived.Test.YtddfgplgjjkdcabChecked
import GoSem.Claim
import GoSem.ClaimJoined
import GoSem.ClaimMapViews
import Derived.JoinedTies
import Derived.KernelRfl
namespace Go.Proofs.Ytddfgplgjjkdcab
/- THE CELL 'sum', in the pinned program and in every row, IS THE sha256 OF THE DUMP (.gsa) THAT YtddfgplgjjkdcabProg.lean LOADS. Nothing in Lean hashes anything: it is a label: what it is worth is what the hold of that sum in a sandbox is worth. -/
noncomputable def Try.pinned : Pinned := { name := "ytddfgplgjjkdcab", sum := "18eb27eaa730085ef0b57e52098b68b4878d5e698dc9916772cc9d0dbe5fc4d6", checked := Try.checked }
namespace Rows
def none {H : Type} : Left H := { results := [], args := [] }

/-- 'laws.FnExactUnpackP': WHATEVER THE INPUT: true; the input reads as it did. -/
def fnExactUnpackPSpec : ChangeSpec := { name := "fnExactUnpackP", fn := fun _ => fun
  | [d] => { results := [.lit (.bool true)], args := [d] }
  | _ => none }
def fnExactUnpackPRow : OpenClaim := { program := "ytddfgplgjjkdcab", sum := "18eb27eaa730085ef0b57e52098b68b4878d5e698dc9916772cc9d0dbe5fc4d6", func := "loop.example/g00693/laws.FnExactUnpackP", spec := "fnExactUnpackP", apart := false }
def FnExactUnpackPSaid : Prop := fnExactUnpackPRow.holds Try.pinned (OpenSpec.ofChange fnExactUnpackPSpec)

/-- ITS FALSE NEIGHBOUR: 'it returns false'. Refute it at one input. -/
def fnExactUnpackPWrong : ChangeSpec := { name := "fnExactUnpackP", fn := fun _ => fun
  | [d] => { results := [.lit (.bool false)], args := [d] }
  | _ => none }
def FnExactUnpackPWrongFalsely : Prop := fnExactUnpackPRow.holds Try.pinned (OpenSpec.ofChange fnExactUnpackPWrong)

/-- 'laws.FnExactNZ': WHATEVER THE INPUT: true; the input reads as it did. -/
def fnExactNZSpec : ChangeSpec := { name := "fnExactNZ", fn := fun _ => fun
  | [d1, d2] => { results := [.lit (.bool true)], args := [d1, d2] }
  | _ => none }
def fnExactNZRow : OpenClaim := { program := "ytddfgplgjjkdcab", sum := "18eb27eaa730085ef0b57e52098b68b4878d5e698dc9916772cc9d0dbe5fc4d6", func := "loop.example/g00693/laws.FnExactNZ", spec := "fnExactNZ", apart := false }
def FnExactNZSaid : Prop := fnExactNZRow.holds Try.pinned (OpenSpec.ofChange fnExactNZSpec)

/-- ITS FALSE NEIGHBOUR: 'it returns false'. Refute it at one input. -/
def fnExactNZWrong : ChangeSpec := { name := "fnExactNZ", fn := fun _ => fun
  | [d1, d2] => { results := [.lit (.bool false)], args := [d1, d2] }
  | _ => none }
def FnExactNZWrongFalsely : Prop := fnExactNZRow.holds Try.pinned (OpenSpec.ofChange fnExactNZWrong)

/-- 'laws.FnExactAdc': WHATEVER THE INPUT: true; the input reads as it did. -/
def fnExactAdcSpec : ChangeSpec := { name := "fnExactAdc", fn := fun _ => fun
  | [d1, d2, d3] => { results := [.lit (.bool true)], args := [d1, d2, d3] }
  | _ => none }
def fnExactAdcRow : OpenClaim := { program := "ytddfgplgjjkdcab", sum := "18eb27eaa730085ef0b57e52098b68b4878d5e698dc9916772cc9d0dbe5fc4d6", func := "loop.example/g00693/laws.FnExactAdc", spec := "fnExactAdc", apart := false }
def FnExactAdcSaid : Prop := fnExactAdcRow.holds Try.pinned (OpenSpec.ofChange fnExactAdcSpec)

/-- ITS FALSE NEIGHBOUR: 'it returns false'. Refute it at one input. -/
def fnExactAdcWrong : ChangeSpec := { name := "fnExactAdc", fn := fun _ => fun
  | [d1, d2, d3] => { results := [.lit (.bool false)], args := [d1, d2, d3] }
  | _ => none }
def FnExactAdcWrongFalsely : Prop := fnExactAdcRow.holds Try.pinned (OpenSpec.ofChange fnExactAdcWrong)

/-- 'laws.FnExactSbc': WHATEVER THE INPUT: true; the input reads as it did. -/
def fnExactSbcSpec : ChangeSpec := { name := "fnExactSbc", fn := fun _ => fun
  | [d1, d2, d3] => { results := [.lit (.bool true)], args := [d1, d2, d3] }
  | _ => none }
def fnExactSbcRow : OpenClaim := { program := "ytddfgplgjjkdcab", sum := "18eb27eaa730085ef0b57e52098b68b4878d5e698dc9916772cc9d0dbe5fc4d6", func := "loop.example/g00693/laws.FnExactSbc", spec := "fnExactSbc", apart := false }
def FnExactSbcSaid : Prop := fnExactSbcRow.holds Try.pinned (OpenSpec.ofChange fnExactSbcSpec)

/-- ITS FALSE NEIGHBOUR: 'it returns false'. Refute it at one input. -/
def fnExactSbcWrong : ChangeSpec := { name := "fnExactSbc", fn := fun _ => fun
  | [d1, d2, d3] => { results := [.lit (.bool false)], args := [d1, d2, d3] }
  | _ => none }
def FnExactSbcWrongFalsely : Prop := fnExactSbcRow.holds Try.pinned (OpenSpec.ofChange fnExactSbcWrong)

/-- 'laws.FnExactCmp': WHATEVER THE INPUT: true; the input reads as it did. -/
def fnExactCmpSpec : ChangeSpec := { name := "fnExactCmp", fn := fun _ => fun
  | [d1, d2, d3] => { results := [.lit (.bool true)], args := [d1, d2, d3] }
  | _ => none }
def fnExactCmpRow : OpenClaim := { program := "ytddfgplgjjkdcab", sum := "18eb27eaa730085ef0b57e52098b68b4878d5e698dc9916772cc9d0dbe5fc4d6", func := "loop.example/g00693/laws.FnExactCmp", spec := "fnExactCmp", apart := false }
def FnExactCmpSaid : Prop := fnExactCmpRow.holds Try.pinned (OpenSpec.ofChange fnExactCmpSpec)

/-- ITS FALSE NEIGHBOUR: 'it returns false'. Refute it at one input. -/
def fnExactCmpWrong : ChangeSpec := { name := "fnExactCmp", fn := fun _ => fun
  | [d1, d2, d3] => { results := [.lit (.bool false)], args := [d1, d2, d3] }
  | _ => none }
def FnExactCmpWrongFalsely : Prop := fnExactCmpRow.holds Try.pinned (OpenSpec.ofChange fnExactCmpWrong)

/-- 'laws.FnExactAsl': WHATEVER THE INPUT: true; the input reads as it did. -/
def fnExactAslSpec : ChangeSpec := { name := "fnExactAsl", fn := fun _ => fun
  | [d1, d2] => { results := [.lit (.bool true)], args := [d1, d2] }
  | _ => none }
def fnExactAslRow : OpenClaim := { program := "ytddfgplgjjkdcab", sum := "18eb27eaa730085ef0b57e52098b68b4878d5e698dc9916772cc9d0dbe5fc4d6", func := "loop.example/g00693/laws.FnExactAsl", spec := "fnExactAsl", apart := false }
def FnExactAslSaid : Prop := fnExactAslRow.holds Try.pinned (OpenSpec.ofChange fnExactAslSpec)

/-- ITS FALSE NEIGHBOUR: 'it returns false'. Refute it at one input. -/
def fnExactAslWrong : ChangeSpec := { name := "fnExactAsl", fn := fun _ => fun
  | [d1, d2] => { results := [.lit (.bool false)], args := [d1, d2] }
  | _ => none }
def FnExactAslWrongFalsely : Prop := fnExactAslRow.holds Try.pinned (OpenSpec.ofChange fnExactAslWrong)

/- THE SECOND FORM. 'bulk': how many values and letters a reading holds, each counted each time it is reached (what is shared counts as often as it is met; a slice's spare places count too). A statement '..UptoSaid' is the law's where the arguments, and the package variables that the reading takes, are together of bulk at most 1048576: NARROWER than '..Said'. Prove '..Said' where nothing that the law and all that it calls make is longer than what came in: it says more and counts as full. Else prove '..UptoSaid'. A law counts once. -/
mutual
def uptoBulk {H : Type} : DataW H → Nat
  | .lit (.string bytes) => bytes.length + 1
  | .lit _ => 1
  | .nil => 1
  | .ptr d => uptoBulk d + 1
  | .slice elems spare => uptoBulkAll elems + uptoBulkAll spare + 1
  | .agg parts => uptoBulkAll parts + 1
  | .iface _ d => uptoBulk d + 1
  | .map entries => uptoBulkEntries entries + 1
  | .held _ => 1
def uptoBulkAll {H : Type} : List (DataW H) → Nat
  | [] => 0
  | d :: r => uptoBulk d + uptoBulkAll r
def uptoBulkEntries {H : Type} : List (Lit × DataW H) → Nat
  | [] => 0
  | x :: r => uptoBulkEntry x + uptoBulkEntries r
def uptoBulkEntry {H : Type} : Lit × DataW H → Nat
  | (.string bytes, d) => bytes.length + uptoBulk d + 1
  | (_, d) => uptoBulk d + 1
 end
def uptoSmall : (H : Type) → List (DataW H) → Bool := fun _ ds => decide (uptoBulkAll ds ≤ 1048576)
def OpenSpec.upto (s : _root_.Go.ChangeSpec) : _root_.Go.OpenSpec := { _root_.Go.OpenSpec.ofChange s with cond := some uptoSmall }

/-- 'laws.FnExactUnpackP', WHERE WHAT IT READS IS OF BULK AT MOST 1048576: true; the input reads as it did. -/
def fnExactUnpackPUptoRow : OpenClaim := { program := "ytddfgplgjjkdcab", sum := "18eb27eaa730085ef0b57e52098b68b4878d5e698dc9916772cc9d0dbe5fc4d6", func := "loop.example/g00693/laws.FnExactUnpackP", spec := "fnExactUnpackP", apart := false, narrowed := true }
def FnExactUnpackPUptoSaid : Prop := fnExactUnpackPUptoRow.holds Try.pinned (OpenSpec.upto fnExactUnpackPSpec)

/-- 'laws.FnExactNZ', WHERE WHAT IT READS IS OF BULK AT MOST 1048576: true; the input reads as it did. -/
def fnExactNZUptoRow : OpenClaim := { program := "ytddfgplgjjkdcab", sum := "18eb27eaa730085ef0b57e52098b68b4878d5e698dc9916772cc9d0dbe5fc4d6", func := "loop.example/g00693/laws.FnExactNZ", spec := "fnExactNZ", apart := false, narrowed := true }
def FnExactNZUptoSaid : Prop := fnExactNZUptoRow.holds Try.pinned (OpenSpec.upto fnExactNZSpec)

/-- 'laws.FnExactAdc', WHERE WHAT IT READS IS OF BULK AT MOST 1048576: true; the input reads as it did. -/
def fnExactAdcUptoRow : OpenClaim := { program := "ytddfgplgjjkdcab", sum := "18eb27eaa730085ef0b57e52098b68b4878d5e698dc9916772cc9d0dbe5fc4d6", func := "loop.example/g00693/laws.FnExactAdc", spec := "fnExactAdc", apart := false, narrowed := true }
def FnExactAdcUptoSaid : Prop := fnExactAdcUptoRow.holds Try.pinned (OpenSpec.upto fnExactAdcSpec)

/-- 'laws.FnExactSbc', WHERE WHAT IT READS IS OF BULK AT MOST 1048576: true; the input reads as it did. -/
def fnExactSbcUptoRow : OpenClaim := { program := "ytddfgplgjjkdcab", sum := "18eb27eaa730085ef0b57e52098b68b4878d5e698dc9916772cc9d0dbe5fc4d6", func := "loop.example/g00693/laws.FnExactSbc", spec := "fnExactSbc", apart := false, narrowed := true }
def FnExactSbcUptoSaid : Prop := fnExactSbcUptoRow.holds Try.pinned (OpenSpec.upto fnExactSbcSpec)

/-- 'laws.FnExactCmp', WHERE WHAT IT READS IS OF BULK AT MOST 1048576: true; the input reads as it did. -/
def fnExactCmpUptoRow : OpenClaim := { program := "ytddfgplgjjkdcab", sum := "18eb27eaa730085ef0b57e52098b68b4878d5e698dc9916772cc9d0dbe5fc4d6", func := "loop.example/g00693/laws.FnExactCmp", spec := "fnExactCmp", apart := false, narrowed := true }
def FnExactCmpUptoSaid : Prop := fnExactCmpUptoRow.holds Try.pinned (OpenSpec.upto fnExactCmpSpec)

/-- 'laws.FnExactAsl', WHERE WHAT IT READS IS OF BULK AT MOST 1048576: true; the input reads as it did. -/
def fnExactAslUptoRow : OpenClaim := { program := "ytddfgplgjjkdcab", sum := "18eb27eaa730085ef0b57e52098b68b4878d5e698dc9916772cc9d0dbe5fc4d6", func := "loop.example/g00693/laws.FnExactAsl", spec := "fnExactAsl", apart := false, narrowed := true }
def FnExactAslUptoSaid : Prop := fnExactAslUptoRow.holds Try.pinned (OpenSpec.upto fnExactAslSpec)

end Rows
end Go.Proofs.Ytddfgplgjjkdcab
