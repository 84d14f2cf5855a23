/-
  Contracts over the program: what kinds of operations there are; the model's Jams; boxes of a step.
-/
import Derived.Test.YtblchdmemhhcbaaQSStepH
import Derived.WalkKit
import Derived.Lib.Hide
import Derived.Test.YtblchdmemhhcbaaProg
namespace Go.Proofs.Ytblchdmemhhcbaa
set_option linter.unusedVariables false
set_option linter.unusedSimpArgs false
open Go.RowKit

theorem four_call {w w1 : World} {cs rs zs us : Array Value} {t u v x : TypeId} (hb : Below ((((w.alloc (.cells cs t)).alloc (.cells rs u)).alloc (.cells zs v)).alloc (.cells us x)).heap.size ((((w.alloc (.cells cs t)).alloc (.cells rs u)).alloc (.cells zs v)).alloc (.cells us x)) w1) :
    BoxN w1 w.heap.size t cs ∧ BoxN w1 (w.heap.size + 1) u rs ∧ BoxN w1 (w.heap.size + 1 + 1) v zs ∧ BoxN w1 (w.heap.size + 1 + 1 + 1) x us ∧ Below w.heap.size w w1 ∧ w.heap.size + 4 ≤ w1.heap.size := by
  have al : ∀ (W : World) (o : Obj), Below W.heap.size W (W.alloc o) := fun W o => (Below.refl _ _).alloc (Nat.le_refl _) _
  have h0 := ((((BoxN.new w t cs).below (al _ (.cells rs u))).below (al _ (.cells zs v))).below (al _ (.cells us x))).below hb
  have h1 := (((BoxN.new (w.alloc (.cells cs t)) u rs).below (al _ (.cells zs v))).below (al _ (.cells us x))).below hb
  have h2 := ((BoxN.new ((w.alloc (.cells cs t)).alloc (.cells rs u)) v zs).below (al _ (.cells us x))).below hb
  have h3 := (BoxN.new (((w.alloc (.cells cs t)).alloc (.cells rs u)).alloc (.cells zs v)) x us).below hb
  simp only [World.size_alloc] at h1 h2 h3
  have hz := hb.size
  simp only [World.size_alloc] at hz
  refine ⟨h0, h1, h2, h3, ?_, by omega⟩
  exact bstep (bstep (bstep (bstep (al w _) (al _ _)) (al _ _)) (al _ _)) hb

end Go.Proofs.Ytblchdmemhhcbaa
