/-
  Loads, allocs and stores of a processor's and a memory's box, as regions want them.
-/
import Derived.Test.YtckfdbjjjgfbfaaQRegStep
import Derived.Test.YtckfdbjjjgfbfaaQStepRel
import Derived.Laws.Tables
namespace Go.Proofs.Ytckfdbjjjgfbfaa
set_option linter.unusedVariables false
set_option linter.unusedSimpArgs false
open Go.RowKit

theorem op_call {P : Program} {ops : Array Oper} {Q : Exit → Act → World → Prop} {K : Act → World → Prop} {a : Act} {w : World} {i d : Nat} {f : FuncId} {xs : Array Operand} {tys : Array TypeId} {args : Array Value}
    (hop : IsOp ops i (some d) (.call ⟨.value (.func f), xs, tys⟩)) (hargs : xs.map a.eval = args) (hrun : (callFunc f args).run P w = .ok (.enter f args) w)
    (hC : Calls P f args w fun e w' => ∃ v, e = .returned v ∧ K (a.put (some d) v) w') : wpOp P ops Q i K a w := by
  refine wpOp_calls hop (fun o ho => ?_) hC
  unfold execOp
  rw [ho]
  dsimp only
  unfold resolve
  dsimp only
  rw [hargs]
  show Sem.run P (callFunc f ((#[] ++ args) ++ #[])) w = _
  rw [Array.append_empty, Array.empty_append]
  exact hrun

theorem below_step {n : Nat} {V W w : World} (h : Below n V W) (k : Below W.heap.size W w) (hn : n ≤ V.heap.size) : Below n V w := h.trans (k.mono (Nat.le_trans hn h.size))

theorem loadIR {w : World} {B : Nat} {v : Value} (h : BoxN w B 30 #[v]) : (Instr.loadAt 30 (.pointer (some ⟨B, 0, none⟩))).run Try.prog w = .ok (ramV v) w := by
  have g0 := h.cell 0 _ rfl
  simp [go_sem, g0]

theorem store_whole {w : World} {B : Nat} {t : TypeId} {vs cs : Array Value} (h : BoxN w B t cs) (hz : cs.size = vs.size) (hi : (Try.prog.info? t).map (·.size) = some vs.size) (h1 : vs.all (·.oneCell') = true) :
    ∃ w', (Instr.storeAt t (.pointer (some ⟨B, 0, none⟩)) (.agg vs)).run Try.prog w = .ok () w' ∧ BoxN w' B t vs ∧ Span B (B + 1) w w' := by
  refine ⟨w.setRow B vs, ?_, setRow_heap w B cs vs t (0, 0) h, ⟨rfl, rfl, rfl, by simp [World.setRow], fun k _ hk => setRow_other w B k vs (by omega)⟩⟩
  simp only [Instr.storeAt, Instr.sureAddr, Sem.run_bind, Sem.run_pure, Result.andThen]
  exact run_storeVar_row _ _ t t cs vs h hi hz h1

theorem storeIC {w : World} {B : Nat} {c : CpuN} {cs : Array Value} (h : BoxN w B 28 cs) (hz : cs.size = 11) : ∃ w', (Instr.storeAt 28 (.pointer (some ⟨B, 0, none⟩)) (cpuV c)).run Try.prog w = .ok () w' ∧ BoxN w' B 28 (cpuCells c) ∧ Span B (B + 1) w w' :=
  store_whole (vs := cpuCells c) h hz (by kernel_rfl) (by simp [cpuCells, Value.oneCell'])

end Go.Proofs.Ytckfdbjjjgfbfaa
