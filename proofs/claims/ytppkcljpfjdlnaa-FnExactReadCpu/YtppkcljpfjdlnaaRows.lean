/-
  No cell of these rows narrows 'for every input' (looked for: loops, veiled, ifaces, maps, wideKeys, modest, calm, conditions, laid).
  DERIVED. THE GIVEN ROWS OF THIS SEAT. 11 by the template 'for every input the law returns true; each argument reads behind the call as it read before'; 0 by the template 'total and deterministic' (their statements: YtppkcljpfjdlnaaTotals.lean).
  GIVEN WITH THE SEED: the statements are not yours to turn. If you find one false, say at which input.
  Laid BY PROGRAM, IN A SANDBOX (cutbox-rows.mjs): the forced cells as the released guide's own fill.sh prints them over the translation f22b726c7c10a8b7… (all of the seat's roots in one cut). By AI agents, Wed Nov 11 2026. No macro, syntax, notation, axiom, sorry.
-/
import Derived.Test.YtppkcljpfjdlnaaChecked
import GoSem.Claim
import GoSem.ClaimJoined
import GoSem.ClaimMapViews
import Derived.JoinedTies
import Derived.KernelRfl
namespace Go.Proofs.Ytppkcljpfjdlnaa
/- THE CELL 'sum', in the pinned program and in every row, IS THE sha256 OF THE DUMP (.gsa) THAT YtppkcljpfjdlnaaProg.lean LOADS. Nothing in Lean hashes anything: it is a label: what it is worth is what the hold of that sum in a sandbox is worth. -/
noncomputable def Try.pinned : Pinned := { name := "ytppkcljpfjdlnaa", sum := "f22b726c7c10a8b7d45d14f7e3c7659679672e123b17512fb885e94b749707c5", checked := Try.checked }
namespace Rows
def none {H : Type} : Left H := { results := [], args := [] }

/-- 'laws.FnRam': WHATEVER THE INPUT: true; the input reads as it did. -/
def fnRamSpec : ChangeSpec := { name := "fnRam", fn := fun _ => fun
  | [d] => { results := [.lit (.bool true)], args := [d] }
  | _ => none }
def fnRamRow : OpenClaim := { program := "ytppkcljpfjdlnaa", sum := "f22b726c7c10a8b7d45d14f7e3c7659679672e123b17512fb885e94b749707c5", func := "loop.example/g00693/laws.FnRam", spec := "fnRam", apart := false }
def FnRamSaid : Prop := fnRamRow.holds Try.pinned (OpenSpec.ofChange fnRamSpec)

/-- ITS FALSE NEIGHBOUR: 'it returns false'. Refute it at one input. -/
def fnRamWrong : ChangeSpec := { name := "fnRam", fn := fun _ => fun
  | [d] => { results := [.lit (.bool false)], args := [d] }
  | _ => none }
def FnRamWrongFalsely : Prop := fnRamRow.holds Try.pinned (OpenSpec.ofChange fnRamWrong)

/-- 'laws.FnFill': WHATEVER THE INPUT: true; the input reads as it did. -/
def fnFillSpec : ChangeSpec := { name := "fnFill", fn := fun _ => fun
  | [d] => { results := [.lit (.bool true)], args := [d] }
  | _ => none }
def fnFillRow : OpenClaim := { program := "ytppkcljpfjdlnaa", sum := "f22b726c7c10a8b7d45d14f7e3c7659679672e123b17512fb885e94b749707c5", func := "loop.example/g00693/laws.FnFill", spec := "fnFill", apart := false }
def FnFillSaid : Prop := fnFillRow.holds Try.pinned (OpenSpec.ofChange fnFillSpec)

/-- ITS FALSE NEIGHBOUR: 'it returns false'. Refute it at one input. -/
def fnFillWrong : ChangeSpec := { name := "fnFill", fn := fun _ => fun
  | [d] => { results := [.lit (.bool false)], args := [d] }
  | _ => none }
def FnFillWrongFalsely : Prop := fnFillRow.holds Try.pinned (OpenSpec.ofChange fnFillWrong)

/-- 'laws.FnCpuText': WHATEVER THE INPUT: true; the input reads as it did. -/
def fnCpuTextSpec : ChangeSpec := { name := "fnCpuText", fn := fun _ => fun
  | [d] => { results := [.lit (.bool true)], args := [d] }
  | _ => none }
def fnCpuTextRow : OpenClaim := { program := "ytppkcljpfjdlnaa", sum := "f22b726c7c10a8b7d45d14f7e3c7659679672e123b17512fb885e94b749707c5", func := "loop.example/g00693/laws.FnCpuText", spec := "fnCpuText", inPlace := ["internal/bytealg.IndexByteString", "internal/bytealg.IndexString"], named := ["internal/bytealg.MaxLen"], apart := false }
def FnCpuTextSaid : Prop := fnCpuTextRow.holds Try.pinned (OpenSpec.ofChange fnCpuTextSpec)

/-- ITS FALSE NEIGHBOUR: 'it returns false'. Refute it at one input. -/
def fnCpuTextWrong : ChangeSpec := { name := "fnCpuText", fn := fun _ => fun
  | [d] => { results := [.lit (.bool false)], args := [d] }
  | _ => none }
def FnCpuTextWrongFalsely : Prop := fnCpuTextRow.holds Try.pinned (OpenSpec.ofChange fnCpuTextWrong)

/-- 'laws.FnNewRam': WHATEVER THE INPUT: true; the input reads as it did. -/
def fnNewRamSpec : ChangeSpec := { name := "fnNewRam", fn := fun _ => fun
  | [d] => { results := [.lit (.bool true)], args := [d] }
  | _ => none }
def fnNewRamRow : OpenClaim := { program := "ytppkcljpfjdlnaa", sum := "f22b726c7c10a8b7d45d14f7e3c7659679672e123b17512fb885e94b749707c5", func := "loop.example/g00693/laws.FnNewRam", spec := "fnNewRam", apart := false }
def FnNewRamSaid : Prop := fnNewRamRow.holds Try.pinned (OpenSpec.ofChange fnNewRamSpec)

/-- ITS FALSE NEIGHBOUR: 'it returns false'. Refute it at one input. -/
def fnNewRamWrong : ChangeSpec := { name := "fnNewRam", fn := fun _ => fun
  | [d] => { results := [.lit (.bool false)], args := [d] }
  | _ => none }
def FnNewRamWrongFalsely : Prop := fnNewRamRow.holds Try.pinned (OpenSpec.ofChange fnNewRamWrong)

/-- 'laws.FnExactRamOk': WHATEVER THE INPUT: true; the input reads as it did. -/
def fnExactRamOkSpec : ChangeSpec := { name := "fnExactRamOk", fn := fun _ => fun
  | [d] => { results := [.lit (.bool true)], args := [d] }
  | _ => none }
def fnExactRamOkRow : OpenClaim := { program := "ytppkcljpfjdlnaa", sum := "f22b726c7c10a8b7d45d14f7e3c7659679672e123b17512fb885e94b749707c5", func := "loop.example/g00693/laws.FnExactRamOk", spec := "fnExactRamOk", apart := false }
def FnExactRamOkSaid : Prop := fnExactRamOkRow.holds Try.pinned (OpenSpec.ofChange fnExactRamOkSpec)

/-- ITS FALSE NEIGHBOUR: 'it returns false'. Refute it at one input. -/
def fnExactRamOkWrong : ChangeSpec := { name := "fnExactRamOk", fn := fun _ => fun
  | [d] => { results := [.lit (.bool false)], args := [d] }
  | _ => none }
def FnExactRamOkWrongFalsely : Prop := fnExactRamOkRow.holds Try.pinned (OpenSpec.ofChange fnExactRamOkWrong)

/-- 'laws.FnExactNewRam': WHATEVER THE INPUT: true; the input reads as it did. -/
def fnExactNewRamSpec : ChangeSpec := { name := "fnExactNewRam", fn := fun _ => fun
  | [d] => { results := [.lit (.bool true)], args := [d] }
  | _ => none }
def fnExactNewRamRow : OpenClaim := { program := "ytppkcljpfjdlnaa", sum := "f22b726c7c10a8b7d45d14f7e3c7659679672e123b17512fb885e94b749707c5", func := "loop.example/g00693/laws.FnExactNewRam", spec := "fnExactNewRam", apart := false }
def FnExactNewRamSaid : Prop := fnExactNewRamRow.holds Try.pinned (OpenSpec.ofChange fnExactNewRamSpec)

/-- ITS FALSE NEIGHBOUR: 'it returns false'. Refute it at one input. -/
def fnExactNewRamWrong : ChangeSpec := { name := "fnExactNewRam", fn := fun _ => fun
  | [d] => { results := [.lit (.bool false)], args := [d] }
  | _ => none }
def FnExactNewRamWrongFalsely : Prop := fnExactNewRamRow.holds Try.pinned (OpenSpec.ofChange fnExactNewRamWrong)

/-- 'laws.FnExactPeek': WHATEVER THE INPUT: true; the input reads as it did. -/
def fnExactPeekSpec : ChangeSpec := { name := "fnExactPeek", fn := fun _ => fun
  | [d1, d2] => { results := [.lit (.bool true)], args := [d1, d2] }
  | _ => none }
def fnExactPeekRow : OpenClaim := { program := "ytppkcljpfjdlnaa", sum := "f22b726c7c10a8b7d45d14f7e3c7659679672e123b17512fb885e94b749707c5", func := "loop.example/g00693/laws.FnExactPeek", spec := "fnExactPeek", apart := false }
def FnExactPeekSaid : Prop := fnExactPeekRow.holds Try.pinned (OpenSpec.ofChange fnExactPeekSpec)

/-- ITS FALSE NEIGHBOUR: 'it returns false'. Refute it at one input. -/
def fnExactPeekWrong : ChangeSpec := { name := "fnExactPeek", fn := fun _ => fun
  | [d1, d2] => { results := [.lit (.bool false)], args := [d1, d2] }
  | _ => none }
def FnExactPeekWrongFalsely : Prop := fnExactPeekRow.holds Try.pinned (OpenSpec.ofChange fnExactPeekWrong)

/-- 'laws.FnExactPoke': WHATEVER THE INPUT: true; the input reads as it did. -/
def fnExactPokeSpec : ChangeSpec := { name := "fnExactPoke", fn := fun _ => fun
  | [d1, d2, d3] => { results := [.lit (.bool true)], args := [d1, d2, d3] }
  | _ => none }
def fnExactPokeRow : OpenClaim := { program := "ytppkcljpfjdlnaa", sum := "f22b726c7c10a8b7d45d14f7e3c7659679672e123b17512fb885e94b749707c5", func := "loop.example/g00693/laws.FnExactPoke", spec := "fnExactPoke", apart := false }
def FnExactPokeSaid : Prop := fnExactPokeRow.holds Try.pinned (OpenSpec.ofChange fnExactPokeSpec)

/-- ITS FALSE NEIGHBOUR: 'it returns false'. Refute it at one input. -/
def fnExactPokeWrong : ChangeSpec := { name := "fnExactPoke", fn := fun _ => fun
  | [d1, d2, d3] => { results := [.lit (.bool false)], args := [d1, d2, d3] }
  | _ => none }
def FnExactPokeWrongFalsely : Prop := fnExactPokeRow.holds Try.pinned (OpenSpec.ofChange fnExactPokeWrong)

/-- 'laws.FnExactFill': WHATEVER THE INPUT: true; the input reads as it did. -/
def fnExactFillSpec : ChangeSpec := { name := "fnExactFill", fn := fun _ => fun
  | [d1, d2, d3] => { results := [.lit (.bool true)], args := [d1, d2, d3] }
  | _ => none }
def fnExactFillRow : OpenClaim := { program := "ytppkcljpfjdlnaa", sum := "f22b726c7c10a8b7d45d14f7e3c7659679672e123b17512fb885e94b749707c5", func := "loop.example/g00693/laws.FnExactFill", spec := "fnExactFill", apart := false }
def FnExactFillSaid : Prop := fnExactFillRow.holds Try.pinned (OpenSpec.ofChange fnExactFillSpec)

/-- ITS FALSE NEIGHBOUR: 'it returns false'. Refute it at one input. -/
def fnExactFillWrong : ChangeSpec := { name := "fnExactFill", fn := fun _ => fun
  | [d1, d2, d3] => { results := [.lit (.bool false)], args := [d1, d2, d3] }
  | _ => none }
def FnExactFillWrongFalsely : Prop := fnExactFillRow.holds Try.pinned (OpenSpec.ofChange fnExactFillWrong)

/-- 'laws.FnExactCpuText': WHATEVER THE INPUT: true; the input reads as it did. -/
def fnExactCpuTextSpec : ChangeSpec := { name := "fnExactCpuText", fn := fun _ => fun
  | [d] => { results := [.lit (.bool true)], args := [d] }
  | _ => none }
def fnExactCpuTextRow : OpenClaim := { program := "ytppkcljpfjdlnaa", sum := "f22b726c7c10a8b7d45d14f7e3c7659679672e123b17512fb885e94b749707c5", func := "loop.example/g00693/laws.FnExactCpuText", spec := "fnExactCpuText", apart := false }
def FnExactCpuTextSaid : Prop := fnExactCpuTextRow.holds Try.pinned (OpenSpec.ofChange fnExactCpuTextSpec)

/-- ITS FALSE NEIGHBOUR: 'it returns false'. Refute it at one input. -/
def fnExactCpuTextWrong : ChangeSpec := { name := "fnExactCpuText", fn := fun _ => fun
  | [d] => { results := [.lit (.bool false)], args := [d] }
  | _ => none }
def FnExactCpuTextWrongFalsely : Prop := fnExactCpuTextRow.holds Try.pinned (OpenSpec.ofChange fnExactCpuTextWrong)

/-- 'laws.FnExactReadCpu': WHATEVER THE INPUT: true; the input reads as it did. -/
def fnExactReadCpuSpec : ChangeSpec := { name := "fnExactReadCpu", fn := fun _ => fun
  | [d] => { results := [.lit (.bool true)], args := [d] }
  | _ => none }
def fnExactReadCpuRow : OpenClaim := { program := "ytppkcljpfjdlnaa", sum := "f22b726c7c10a8b7d45d14f7e3c7659679672e123b17512fb885e94b749707c5", func := "loop.example/g00693/laws.FnExactReadCpu", spec := "fnExactReadCpu", inPlace := ["internal/bytealg.IndexByteString", "internal/bytealg.IndexString"], named := ["internal/bytealg.MaxLen"], apart := false }
def FnExactReadCpuSaid : Prop := fnExactReadCpuRow.holds Try.pinned (OpenSpec.ofChange fnExactReadCpuSpec)

/-- ITS FALSE NEIGHBOUR: 'it returns false'. Refute it at one input. -/
def fnExactReadCpuWrong : ChangeSpec := { name := "fnExactReadCpu", fn := fun _ => fun
  | [d] => { results := [.lit (.bool false)], args := [d] }
  | _ => none }
def FnExactReadCpuWrongFalsely : Prop := fnExactReadCpuRow.holds Try.pinned (OpenSpec.ofChange fnExactReadCpuWrong)

/- THE SECOND FORM. 'bulk': how many values and letters a reading holds, each counted each time it is reached (what is shared counts as often as it is met; a slice's spare places count too). A statement '..UptoSaid' is the law's where the arguments, and the package variables that the reading takes, are together of bulk at most 1048576: NARROWER than '..Said'. Prove '..Said' where nothing that the law and all that it calls make is longer than what came in: it says more and counts as full. Else prove '..UptoSaid'. A law counts once. -/
mutual
def uptoBulk {H : Type} : DataW H → Nat
  | .lit (.string bytes) => bytes.length + 1
  | .lit _ => 1
  | .nil => 1
  | .ptr d => uptoBulk d + 1
  | .slice elems spare => uptoBulkAll elems + uptoBulkAll spare + 1
  | .agg parts => uptoBulkAll parts + 1
  | .iface _ d => uptoBulk d + 1
  | .map entries => uptoBulkEntries entries + 1
  | .held _ => 1
def uptoBulkAll {H : Type} : List (DataW H) → Nat
  | [] => 0
  | d :: r => uptoBulk d + uptoBulkAll r
def uptoBulkEntries {H : Type} : List (Lit × DataW H) → Nat
  | [] => 0
  | x :: r => uptoBulkEntry x + uptoBulkEntries r
def uptoBulkEntry {H : Type} : Lit × DataW H → Nat
  | (.string bytes, d) => bytes.length + uptoBulk d + 1
  | (_, d) => uptoBulk d + 1
 end
def uptoSmall : (H : Type) → List (DataW H) → Bool := fun _ ds => decide (uptoBulkAll ds ≤ 1048576)
def OpenSpec.upto (s : _root_.Go.ChangeSpec) : _root_.Go.OpenSpec := { _root_.Go.OpenSpec.ofChange s with cond := some uptoSmall }

/-- 'laws.FnRam', WHERE WHAT IT READS IS OF BULK AT MOST 1048576: true; the input reads as it did. -/
def fnRamUptoRow : OpenClaim := { program := "ytppkcljpfjdlnaa", sum := "f22b726c7c10a8b7d45d14f7e3c7659679672e123b17512fb885e94b749707c5", func := "loop.example/g00693/laws.FnRam", spec := "fnRam", apart := false, narrowed := true }
def FnRamUptoSaid : Prop := fnRamUptoRow.holds Try.pinned (OpenSpec.upto fnRamSpec)

/-- 'laws.FnFill', WHERE WHAT IT READS IS OF BULK AT MOST 1048576: true; the input reads as it did. -/
def fnFillUptoRow : OpenClaim := { program := "ytppkcljpfjdlnaa", sum := "f22b726c7c10a8b7d45d14f7e3c7659679672e123b17512fb885e94b749707c5", func := "loop.example/g00693/laws.FnFill", spec := "fnFill", apart := false, narrowed := true }
def FnFillUptoSaid : Prop := fnFillUptoRow.holds Try.pinned (OpenSpec.upto fnFillSpec)

/-- 'laws.FnCpuText', WHERE WHAT IT READS IS OF BULK AT MOST 1048576: true; the input reads as it did. -/
def fnCpuTextUptoRow : OpenClaim := { program := "ytppkcljpfjdlnaa", sum := "f22b726c7c10a8b7d45d14f7e3c7659679672e123b17512fb885e94b749707c5", func := "loop.example/g00693/laws.FnCpuText", spec := "fnCpuText", inPlace := ["internal/bytealg.IndexByteString", "internal/bytealg.IndexString"], named := ["internal/bytealg.MaxLen"], apart := false, narrowed := true }
def FnCpuTextUptoSaid : Prop := fnCpuTextUptoRow.holds Try.pinned (OpenSpec.upto fnCpuTextSpec)

/-- 'laws.FnNewRam', WHERE WHAT IT READS IS OF BULK AT MOST 1048576: true; the input reads as it did. -/
def fnNewRamUptoRow : OpenClaim := { program := "ytppkcljpfjdlnaa", sum := "f22b726c7c10a8b7d45d14f7e3c7659679672e123b17512fb885e94b749707c5", func := "loop.example/g00693/laws.FnNewRam", spec := "fnNewRam", apart := false, narrowed := true }
def FnNewRamUptoSaid : Prop := fnNewRamUptoRow.holds Try.pinned (OpenSpec.upto fnNewRamSpec)

/-- 'laws.FnExactRamOk', WHERE WHAT IT READS IS OF BULK AT MOST 1048576: true; the input reads as it did. -/
def fnExactRamOkUptoRow : OpenClaim := { program := "ytppkcljpfjdlnaa", sum := "f22b726c7c10a8b7d45d14f7e3c7659679672e123b17512fb885e94b749707c5", func := "loop.example/g00693/laws.FnExactRamOk", spec := "fnExactRamOk", apart := false, narrowed := true }
def FnExactRamOkUptoSaid : Prop := fnExactRamOkUptoRow.holds Try.pinned (OpenSpec.upto fnExactRamOkSpec)

/-- 'laws.FnExactNewRam', WHERE WHAT IT READS IS OF BULK AT MOST 1048576: true; the input reads as it did. -/
def fnExactNewRamUptoRow : OpenClaim := { program := "ytppkcljpfjdlnaa", sum := "f22b726c7c10a8b7d45d14f7e3c7659679672e123b17512fb885e94b749707c5", func := "loop.example/g00693/laws.FnExactNewRam", spec := "fnExactNewRam", apart := false, narrowed := true }
def FnExactNewRamUptoSaid : Prop := fnExactNewRamUptoRow.holds Try.pinned (OpenSpec.upto fnExactNewRamSpec)

/-- 'laws.FnExactPeek', WHERE WHAT IT READS IS OF BULK AT MOST 1048576: true; the input reads as it did. -/
def fnExactPeekUptoRow : OpenClaim := { program := "ytppkcljpfjdlnaa", sum := "f22b726c7c10a8b7d45d14f7e3c7659679672e123b17512fb885e94b749707c5", func := "loop.example/g00693/laws.FnExactPeek", spec := "fnExactPeek", apart := false, narrowed := true }
def FnExactPeekUptoSaid : Prop := fnExactPeekUptoRow.holds Try.pinned (OpenSpec.upto fnExactPeekSpec)

/-- 'laws.FnExactPoke', WHERE WHAT IT READS IS OF BULK AT MOST 1048576: true; the input reads as it did. -/
def fnExactPokeUptoRow : OpenClaim := { program := "ytppkcljpfjdlnaa", sum := "f22b726c7c10a8b7d45d14f7e3c7659679672e123b17512fb885e94b749707c5", func := "loop.example/g00693/laws.FnExactPoke", spec := "fnExactPoke", apart := false, narrowed := true }
def FnExactPokeUptoSaid : Prop := fnExactPokeUptoRow.holds Try.pinned (OpenSpec.upto fnExactPokeSpec)

/-- 'laws.FnExactFill', WHERE WHAT IT READS IS OF BULK AT MOST 1048576: true; the input reads as it did. -/
def fnExactFillUptoRow : OpenClaim := { program := "ytppkcljpfjdlnaa", sum := "f22b726c7c10a8b7d45d14f7e3c7659679672e123b17512fb885e94b749707c5", func := "loop.example/g00693/laws.FnExactFill", spec := "fnExactFill", apart := false, narrowed := true }
def FnExactFillUptoSaid : Prop := fnExactFillUptoRow.holds Try.pinned (OpenSpec.upto fnExactFillSpec)

/-- 'laws.FnExactCpuText', WHERE WHAT IT READS IS OF BULK AT MOST 1048576: true; the input reads as it did. -/
def fnExactCpuTextUptoRow : OpenClaim := { program := "ytppkcljpfjdlnaa", sum := "f22b726c7c10a8b7d45d14f7e3c7659679672e123b17512fb885e94b749707c5", func := "loop.example/g00693/laws.FnExactCpuText", spec := "fnExactCpuText", apart := false, narrowed := true }
def FnExactCpuTextUptoSaid : Prop := fnExactCpuTextUptoRow.holds Try.pinned (OpenSpec.upto fnExactCpuTextSpec)

/-- 'laws.FnExactReadCpu', WHERE WHAT IT READS IS OF BULK AT MOST 1048576: true; the input reads as it did. -/
def fnExactReadCpuUptoRow : OpenClaim := { program := "ytppkcljpfjdlnaa", sum := "f22b726c7c10a8b7d45d14f7e3c7659679672e123b17512fb885e94b749707c5", func := "loop.example/g00693/laws.FnExactReadCpu", spec := "fnExactReadCpu", inPlace := ["internal/bytealg.IndexByteString", "internal/bytealg.IndexString"], named := ["internal/bytealg.MaxLen"], apart := false, narrowed := true }
def FnExactReadCpuUptoSaid : Prop := fnExactReadCpuUptoRow.holds Try.pinned (OpenSpec.upto fnExactReadCpuSpec)

end Rows
end Go.Proofs.Ytppkcljpfjdlnaa
