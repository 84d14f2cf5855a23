/-
  Parts of a struct's box: loads and stores at an offset, as facts that a walk is handed; the world behind a store is a name.
-/
import Derived.Test.YtckfdbjjjgfbfaaQRegCpu
import Derived.Deep.MidRow
namespace Go.Proofs.Ytckfdbjjjgfbfaa
set_option linter.unusedVariables false
set_option linter.unusedSimpArgs false
open Go.RowKit

section
variable {P : Program} {ops : Array Oper} {rest : List Oper} {o : Oper} {a : Act} {w w' : World} {Q : Exit → Act → World → Prop} {t : TypeId} {x y : Operand} {p v : Value}

theorem wpList_load_run (hr : (Instr.loadAt t p).run P w = .ok v w) (hgd : o.guard = none) (hop : o.op = .load t x) (hx : a.eval x = p) (h : wpList P ops Q rest (a.put o.dst v) w) : wpList P ops Q (o :: rest) a w :=
  wpList_plain hgd fun K hK => by
    unfold Oper.wp execOp
    simp only [hop, hx, Sem.run_bind, hr, Result.andThen_ok, Sem.run_pure, Oper.upon_value]
    exact hK _ _ h

theorem wpList_store_run (hr : (Instr.storeAt t p v).run P w = .ok () w') (hgd : o.guard = none) (hop : o.op = .store t x y) (hx : a.eval x = p) (hy : a.eval y = v) (hd : o.dst = none) (h : wpList P ops Q rest a w') : wpList P ops Q (o :: rest) a w :=
  wpList_plain hgd fun K hK => by
    unfold Oper.wp execOp
    simp only [hop, hx, hy, Sem.run_bind, hr, Result.andThen_ok, Sem.run_pure, Oper.upon_skip, hd]
    exact hK _ _ h

end

theorem load_part {w : World} {B : Nat} {t ty : TypeId} {cs : Array Value} (h : BoxN w B t cs) (off : Nat) (vs : Array Value) (he : cs.extract off (off + vs.size) = vs) (hu : ((Try.prog.underlying ty).map (·.isRow)) = some true) (hi : (Try.prog.info? ty).map (·.size) = some vs.size) :
    (Instr.loadAt ty (.pointer (some ⟨B, off, none⟩))).run Try.prog w = .ok (.agg vs) w := by
  obtain ⟨d, hd, hr⟩ := Option.map_eq_some_iff.1 hu
  have hc := World.rangeAt_of_block (w := w) h off vs.size
  rw [he] at hc
  have := run_loadAt_mid (P := Try.prog) w B off ty vs.toList d hc hd hr (by simpa using hi)
  simpa using this

def setsV (cs : Array Value) : Nat → List Value → Array Value
  | _, [] => cs
  | o, v :: r => setsV (cs.setIfInBounds o v) (o + 1) r

theorem boxN_setCells {B : Nat} {t : TypeId} : ∀ (V : List Value) (w : World) (cs : Array Value) (o : Nat), BoxN w B t cs → BoxN (w.setCells B o V) B t (setsV cs o V)
  | [], _, _, _, h => h
  | v :: r, _, _, o, h => boxN_setCells r _ _ (o + 1) (h.set o v)

theorem span_setCells : ∀ (V : List Value) (w : World) (B o : Nat), Span B (B + 1) w (w.setCells B o V)
  | [], w, B, o => Span.of_below _ _ (Below.refl _ _)
  | v :: r, w, B, o => (Span.set w B o v).trans (span_setCells r _ B (o + 1))

theorem size_setCells : ∀ (V : List Value) (w : World) (B o : Nat), (w.setCells B o V).heap.size = w.heap.size
  | [], _, _, _ => rfl
  | v :: r, w, B, o => (size_setCells r _ B (o + 1)).trans (by simp)

theorem store_part {w : World} {B : Nat} {t ty : TypeId} {cs cs' : Array Value} (h : BoxN w B t cs) (off : Nat) (vs : Array Value) (he : setsV cs off vs.toList = cs') (hle : off + vs.size ≤ cs.size) (hi : (Try.prog.info? ty).map (·.size) = some vs.size) (h1 : vs.all (·.oneCell') = true) :
    ∃ w', (Instr.storeAt ty (.pointer (some ⟨B, off, none⟩)) (.agg vs)).run Try.prog w = .ok () w' ∧ BoxN w' B t cs' ∧ Span B (B + 1) w w' ∧ w'.heap.size = w.heap.size := by
  refine ⟨w.setCells B off vs.toList, run_storeAt_mid w B off ty vs (fun j hj => ⟨?_, h.frozen _⟩) hi h1, he ▸ boxN_setCells vs.toList w cs off h, span_setCells _ _ _ _, size_setCells _ _ _ _⟩
  have hlt : off + j < cs.size := by omega
  rw [h.cell (off + j) cs[off + j] (Array.getElem?_eq_getElem hlt)]
  rfl

theorem store_one {w : World} {B : Nat} {t ty : TypeId} {cs cs' : Array Value} (h : BoxN w B t cs) (off : Nat) (v : Value) (he : cs.setIfInBounds off v = cs') (hr : (Instr.storeAt ty (.pointer (some ⟨B, off, none⟩)) v).run Try.prog w = .ok () (w.setCell ⟨B, off, none⟩ v)) :
    ∃ w', (Instr.storeAt ty (.pointer (some ⟨B, off, none⟩)) v).run Try.prog w = .ok () w' ∧ BoxN w' B t cs' ∧ Span B (B + 1) w w' ∧ w'.heap.size = w.heap.size :=
  ⟨_, hr, he ▸ h.set off v, Span.set _ _ _ _, by simp⟩

/-- A result that lies in a struct's box. -/
theorem result_box {fn : Func} {p : Tmp} {ty : TypeId} (h : fn.results = #[.cell p ty]) {tmps : Array Value} {w : World} {B : Nat} {t : TypeId} {cs : Array Value} (hb : BoxN w B t cs) (hp : tmps.getD p undef = .pointer (some ⟨B, 0, none⟩)) (hu : ((Try.prog.underlying ty).map (·.isRow)) = some true) (hi : (Try.prog.info? ty).map (·.size) = some cs.size) :
    (results fn tmps).run Try.prog w = .ok (.agg cs) w := by
  obtain ⟨d, hd, hr⟩ := Option.map_eq_some_iff.1 hu
  exact results_cell_row h tmps w B t cs (0, 0) d hp hb hd (by cases d <;> simp_all) hi

end Go.Proofs.Ytckfdbjjjgfbfaa
