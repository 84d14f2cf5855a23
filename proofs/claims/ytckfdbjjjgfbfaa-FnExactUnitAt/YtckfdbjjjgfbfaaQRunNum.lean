/-
  Chapter 7 in plain numbers: events, a run, the unit of a cycle.
-/
import Derived.Test.YtckfdbjjjgfbfaaQStepPlain
import Derived.Test.YtckfdbjjjgfbfaaQStepK
import Derived.Test.YtckfdbjjjgfbfaaQEvNum
namespace Go.Proofs.Ytckfdbjjjgfbfaa
set_option linter.unusedVariables false
set_option linter.unusedSimpArgs false
open Go.RowKit

/-- What a run shows. -/
structure ShotN where
  cpu : CpuN
  mem : List Nat
  trace : List CycN
  starts : List Nat
  cpus : List CpuN
  jam : Bool

/-- One unit more. -/
def ShotN.on (s : ShotN) (r : CpuN × BusN) : ShotN := ⟨r.1, r.2.mem, s.trace ++ r.2.log, s.starts ++ [s.trace.length], s.cpus ++ [s.cpu], s.jam⟩

/-- A shot behind what was shown before. -/
def ShotN.behind (s : ShotN) (t : List CycN) (a : List Nat) (p : List CpuN) : ShotN := ⟨s.cpu, s.mem, t ++ s.trace, a ++ s.starts.map (t.length + ·), p ++ s.cpus, s.jam⟩

end Go.Proofs.Ytckfdbjjjgfbfaa
