/-
  No cell of these rows narrows 'for every input' (looked for: loops, veiled, ifaces, maps, wideKeys, modest, calm, conditions, laid).
  DERIVED. THE GIVEN ROWS OF THIS SEAT. 5 by the template 'for every input the law returns true; each argument reads behind the call as it read before'; 0 by the template 'total and deterministic' (their statements: YtblchdmemhhcbaaGreatTotals.lean).
  GIVEN WITH THE SEED: the statements are not yours to turn. If you find one false, say at which input.
  Laid BY PROGRAM, IN A SANDBOX (cutbox-rows.mjs): the forced cells as the released guide's own fill.sh prints them over the translation bb12fff64d83dc38… (all of the seat's roots in one cut). By AI agents, Wed Nov 11 2026. No macro, syntax, notation, axiom, sorry.
-/
import Derived.Test.YtblchdmemhhcbaaGreatChecked
import GoSem.Claim
import GoSem.ClaimJoined
import GoSem.ClaimMapViews
import Derived.JoinedTies
import Derived.KernelRfl
namespace Go.Proofs.YtblchdmemhhcbaaGreat
/- THE CELL 'sum', in the pinned program and in every row, IS THE sha256 OF THE DUMP (.gsa) THAT YtblchdmemhhcbaaGreatProg.lean LOADS. Nothing in Lean hashes anything: it is a label: what it is worth is what the hold of that sum in a sandbox is worth. -/
noncomputable def Tryz.pinned : Pinned := { name := "ytblchdmemhhcbaagreat", sum := "bb12fff64d83dc3890c0fd9ab91f6be72bc57506b0fd39b425254a18710c47d6", checked := Tryz.checked }
namespace Rows
def none {H : Type} : Left H := { results := [], args := [] }

/-- 'laws.FnStep': WHATEVER THE INPUT: true; the input reads as it did. -/
def fnStepSpec : ChangeSpec := { name := "fnStep", fn := fun _ => fun
  | [d] => { results := [.lit (.bool true)], args := [d] }
  | _ => none }
def fnStepRow : OpenClaim := { program := "ytblchdmemhhcbaagreat", sum := "bb12fff64d83dc3890c0fd9ab91f6be72bc57506b0fd39b425254a18710c47d6", func := "loop.example/g00693/laws.FnStep", spec := "fnStep", unfollowed := true, recurses := true, apart := false }
def FnStepSaid : Prop := fnStepRow.holds Tryz.pinned (OpenSpec.ofChange fnStepSpec)

/-- ITS FALSE NEIGHBOUR: 'it returns false'. Refute it at one input. -/
def fnStepWrong : ChangeSpec := { name := "fnStep", fn := fun _ => fun
  | [d] => { results := [.lit (.bool false)], args := [d] }
  | _ => none }
def FnStepWrongFalsely : Prop := fnStepRow.holds Tryz.pinned (OpenSpec.ofChange fnStepWrong)

/-- 'laws.FnServe': WHATEVER THE INPUT: true; the input reads as it did. -/
def fnServeSpec : ChangeSpec := { name := "fnServe", fn := fun _ => fun
  | [d] => { results := [.lit (.bool true)], args := [d] }
  | _ => none }
def fnServeRow : OpenClaim := { program := "ytblchdmemhhcbaagreat", sum := "bb12fff64d83dc3890c0fd9ab91f6be72bc57506b0fd39b425254a18710c47d6", func := "loop.example/g00693/laws.FnServe", spec := "fnServe", unfollowed := true, recurses := true, apart := false }
def FnServeSaid : Prop := fnServeRow.holds Tryz.pinned (OpenSpec.ofChange fnServeSpec)

/-- ITS FALSE NEIGHBOUR: 'it returns false'. Refute it at one input. -/
def fnServeWrong : ChangeSpec := { name := "fnServe", fn := fun _ => fun
  | [d] => { results := [.lit (.bool false)], args := [d] }
  | _ => none }
def FnServeWrongFalsely : Prop := fnServeRow.holds Tryz.pinned (OpenSpec.ofChange fnServeWrong)

/-- 'laws.FnCall': WHATEVER THE INPUT: true; the input reads as it did. -/
def fnCallSpec : ChangeSpec := { name := "fnCall", fn := fun _ => fun
  | [d] => { results := [.lit (.bool true)], args := [d] }
  | _ => none }
def fnCallRow : OpenClaim := { program := "ytblchdmemhhcbaagreat", sum := "bb12fff64d83dc3890c0fd9ab91f6be72bc57506b0fd39b425254a18710c47d6", func := "loop.example/g00693/laws.FnCall", spec := "fnCall", unfollowed := true, recurses := true, apart := false }
def FnCallSaid : Prop := fnCallRow.holds Tryz.pinned (OpenSpec.ofChange fnCallSpec)

/-- ITS FALSE NEIGHBOUR: 'it returns false'. Refute it at one input. -/
def fnCallWrong : ChangeSpec := { name := "fnCall", fn := fun _ => fun
  | [d] => { results := [.lit (.bool false)], args := [d] }
  | _ => none }
def FnCallWrongFalsely : Prop := fnCallRow.holds Tryz.pinned (OpenSpec.ofChange fnCallWrong)

/-- 'laws.FnPushed': WHATEVER THE INPUT: true; the input reads as it did. -/
def fnPushedSpec : ChangeSpec := { name := "fnPushed", fn := fun _ => fun
  | [d] => { results := [.lit (.bool true)], args := [d] }
  | _ => none }
def fnPushedRow : OpenClaim := { program := "ytblchdmemhhcbaagreat", sum := "bb12fff64d83dc3890c0fd9ab91f6be72bc57506b0fd39b425254a18710c47d6", func := "loop.example/g00693/laws.FnPushed", spec := "fnPushed", unfollowed := true, recurses := true, apart := false }
def FnPushedSaid : Prop := fnPushedRow.holds Tryz.pinned (OpenSpec.ofChange fnPushedSpec)

/-- ITS FALSE NEIGHBOUR: 'it returns false'. Refute it at one input. -/
def fnPushedWrong : ChangeSpec := { name := "fnPushed", fn := fun _ => fun
  | [d] => { results := [.lit (.bool false)], args := [d] }
  | _ => none }
def FnPushedWrongFalsely : Prop := fnPushedRow.holds Tryz.pinned (OpenSpec.ofChange fnPushedWrong)

/-- 'laws.FnExactStep': WHATEVER THE INPUT: true; the input reads as it did. -/
def fnExactStepSpec : ChangeSpec := { name := "fnExactStep", fn := fun _ => fun
  | [d1, d2] => { results := [.lit (.bool true)], args := [d1, d2] }
  | _ => none }
def fnExactStepRow : OpenClaim := { program := "ytblchdmemhhcbaagreat", sum := "bb12fff64d83dc3890c0fd9ab91f6be72bc57506b0fd39b425254a18710c47d6", func := "loop.example/g00693/laws.FnExactStep", spec := "fnExactStep", unfollowed := true, recurses := true, apart := false }
def FnExactStepSaid : Prop := fnExactStepRow.holds Tryz.pinned (OpenSpec.ofChange fnExactStepSpec)

/-- ITS FALSE NEIGHBOUR: 'it returns false'. Refute it at one input. -/
def fnExactStepWrong : ChangeSpec := { name := "fnExactStep", fn := fun _ => fun
  | [d1, d2] => { results := [.lit (.bool false)], args := [d1, d2] }
  | _ => none }
def FnExactStepWrongFalsely : Prop := fnExactStepRow.holds Tryz.pinned (OpenSpec.ofChange fnExactStepWrong)

/- THE SECOND FORM. 'bulk': how many values and letters a reading holds, each counted each time it is reached (what is shared counts as often as it is met; a slice's spare places count too). A statement '..UptoSaid' is the law's where the arguments, and the package variables that the reading takes, are together of bulk at most 1048576: NARROWER than '..Said'. Prove '..Said' where nothing that the law and all that it calls make is longer than what came in: it says more and counts as full. Else prove '..UptoSaid'. A law counts once. -/
mutual
def uptoBulk {H : Type} : DataW H → Nat
  | .lit (.string bytes) => bytes.length + 1
  | .lit _ => 1
  | .nil => 1
  | .ptr d => uptoBulk d + 1
  | .slice elems spare => uptoBulkAll elems + uptoBulkAll spare + 1
  | .agg parts => uptoBulkAll parts + 1
  | .iface _ d => uptoBulk d + 1
  | .map entries => uptoBulkEntries entries + 1
  | .held _ => 1
def uptoBulkAll {H : Type} : List (DataW H) → Nat
  | [] => 0
  | d :: r => uptoBulk d + uptoBulkAll r
def uptoBulkEntries {H : Type} : List (Lit × DataW H) → Nat
  | [] => 0
  | x :: r => uptoBulkEntry x + uptoBulkEntries r
def uptoBulkEntry {H : Type} : Lit × DataW H → Nat
  | (.string bytes, d) => bytes.length + uptoBulk d + 1
  | (_, d) => uptoBulk d + 1
 end
def uptoSmall : (H : Type) → List (DataW H) → Bool := fun _ ds => decide (uptoBulkAll ds ≤ 1048576)
def OpenSpec.upto (s : _root_.Go.ChangeSpec) : _root_.Go.OpenSpec := { _root_.Go.OpenSpec.ofChange s with cond := some uptoSmall }

/-- 'laws.FnStep', WHERE WHAT IT READS IS OF BULK AT MOST 1048576: true; the input reads as it did. -/
def fnStepUptoRow : OpenClaim := { program := "ytblchdmemhhcbaagreat", sum := "bb12fff64d83dc3890c0fd9ab91f6be72bc57506b0fd39b425254a18710c47d6", func := "loop.example/g00693/laws.FnStep", spec := "fnStep", unfollowed := true, recurses := true, apart := false, narrowed := true }
def FnStepUptoSaid : Prop := fnStepUptoRow.holds Tryz.pinned (OpenSpec.upto fnStepSpec)

/-- 'laws.FnServe', WHERE WHAT IT READS IS OF BULK AT MOST 1048576: true; the input reads as it did. -/
def fnServeUptoRow : OpenClaim := { program := "ytblchdmemhhcbaagreat", sum := "bb12fff64d83dc3890c0fd9ab91f6be72bc57506b0fd39b425254a18710c47d6", func := "loop.example/g00693/laws.FnServe", spec := "fnServe", unfollowed := true, recurses := true, apart := false, narrowed := true }
def FnServeUptoSaid : Prop := fnServeUptoRow.holds Tryz.pinned (OpenSpec.upto fnServeSpec)

/-- 'laws.FnCall', WHERE WHAT IT READS IS OF BULK AT MOST 1048576: true; the input reads as it did. -/
def fnCallUptoRow : OpenClaim := { program := "ytblchdmemhhcbaagreat", sum := "bb12fff64d83dc3890c0fd9ab91f6be72bc57506b0fd39b425254a18710c47d6", func := "loop.example/g00693/laws.FnCall", spec := "fnCall", unfollowed := true, recurses := true, apart := false, narrowed := true }
def FnCallUptoSaid : Prop := fnCallUptoRow.holds Tryz.pinned (OpenSpec.upto fnCallSpec)

/-- 'laws.FnPushed', WHERE WHAT IT READS IS OF BULK AT MOST 1048576: true; the input reads as it did. -/
def fnPushedUptoRow : OpenClaim := { program := "ytblchdmemhhcbaagreat", sum := "bb12fff64d83dc3890c0fd9ab91f6be72bc57506b0fd39b425254a18710c47d6", func := "loop.example/g00693/laws.FnPushed", spec := "fnPushed", unfollowed := true, recurses := true, apart := false, narrowed := true }
def FnPushedUptoSaid : Prop := fnPushedUptoRow.holds Tryz.pinned (OpenSpec.upto fnPushedSpec)

/-- 'laws.FnExactStep', WHERE WHAT IT READS IS OF BULK AT MOST 1048576: true; the input reads as it did. -/
def fnExactStepUptoRow : OpenClaim := { program := "ytblchdmemhhcbaagreat", sum := "bb12fff64d83dc3890c0fd9ab91f6be72bc57506b0fd39b425254a18710c47d6", func := "loop.example/g00693/laws.FnExactStep", spec := "fnExactStep", unfollowed := true, recurses := true, apart := false, narrowed := true }
def FnExactStepUptoSaid : Prop := fnExactStepUptoRow.holds Tryz.pinned (OpenSpec.upto fnExactStepSpec)

end Rows
end Go.Proofs.YtblchdmemhhcbaaGreat
