/-
  Rows of elements of any type whose elements lie in the same number of cells each ([]int, []Cpu, []Cyc ..): rows that can be read, rows of a call's own, rows by blocks.
-/
import Derived.Test.YtckfdbjjjgfbfaaURegMore
import Derived.Test.YtckfdbjjjgfbfaaUSpan
import Derived.Laws.OwnMore
namespace Go.Proofs.Ytckfdbjjjgfbfaa
set_option linter.unusedVariables false
set_option linter.unusedSimpArgs false
open Go.RowKit

/-- The operation with number i, guarded by the one with number g (which must have yielded true). -/
abbrev IsOpG (ops : Array Oper) (i : Nat) (dst : Option Tmp) (op : Op) (g : Nat) : Prop := (ops[i]?).map (fun o => (o.dst, o.op, o.guard)) = some (dst, op, some (g, true))

/-- The operation with number i, which may run now. -/
def CanOp (ops : Array Oper) (i : Nat) (dst : Option Tmp) (op : Op) (a : Act) : Prop := ∃ o, ops[i]? = some o ∧ Region.wanted o (yielded ops a.tmps) = true ∧ o.dst = dst ∧ o.op = op

theorem IsOpG.can {ops : Array Oper} {i g d : Nat} {dst : Option Tmp} {op op' : Op} {a : Act} (h : IsOpG ops i dst op g) (hg : IsOp ops g (some d) op') (hs : a.eval (.tmp d) = .bool true) : CanOp ops i dst op a := by
  obtain ⟨o', h1, _, h3, _⟩ := isOp hg
  unfold IsOpG at h
  cases ho : ops[i]? with
  | none => rw [ho] at h; cases h
  | some o =>
    rw [ho] at h
    simp only [Option.map_some, Option.some.injEq, Prod.mk.injEq] at h
    obtain ⟨e1, e2, e3⟩ := h
    refine ⟨o, ho, ?_, e1, e2⟩
    have ht : a.tmps[d]? = some (.bool true) := by
      simp only [Act.eval, Array.getD_eq_getD_getElem?] at hs
      cases hd : a.tmps[d]? with
      | none => rw [hd] at hs; cases hs
      | some v => rw [hd] at hs; simp only [Option.getD_some] at hs; rw [hs]
    have hy : yielded ops a.tmps g = some true := by
      unfold yielded
      rw [h1]
      simp only [Option.bind_some, h3, ht]
    unfold Region.wanted
    rw [e3]
    simp only [hy]
    rfl

section
variable {P : Program} {ops : Array Oper} {Q : Exit → Act → World → Prop} {K : Act → World → Prop} {a : Act} {w w' : World} {i d : Nat} {v : Value}

theorem wpCan_of {o : Oper} (ho : ops[i]? = some o) (hg : Region.wanted o (yielded ops a.tmps) = true) (h : Oper.wp P o a w K Q) : wpOp P ops Q i K a w := by
  unfold wpOp
  rw [ho]
  simp only [hg, if_true]
  exact .inl h

theorem wpCan_val {op : Op} (hop : CanOp ops i (some d) op a) (h : ∀ o, o.op = op → (execOp a.eval o).run P w = .ok (.value v) w') (hK : K (a.put (some d) v) w') : wpOp P ops Q i K a w := by
  obtain ⟨o, h1, h2, h3, h4⟩ := hop
  refine wpCan_of h1 h2 ?_
  unfold Oper.wp
  rw [h o h4, Oper.upon_value, h3]
  exact hK

theorem wpCan_calls {op : Op} {f : FuncId} {args : Array Value} (hop : CanOp ops i (some d) op a) (h : ∀ o, o.op = op → (execOp a.eval o).run P w = .ok (.enter f args) w)
    (hC : Calls P f args w fun e w' => ∃ v, e = .returned v ∧ K (a.put (some d) v) w') : wpOp P ops Q i K a w := by
  obtain ⟨o, h1, h2, h3, h4⟩ := hop
  refine wpCan_of h1 h2 ?_
  unfold Oper.wp
  rw [h o h4, Oper.upon_enter, h3]
  refine hC.mono ?_
  rintro e w'' ⟨v, rfl, hk⟩
  exact hk

theorem can_load {t : TypeId} {x : Operand} {p : Value} (hop : CanOp ops i (some d) (.load t x) a) (hs : a.eval x = p) (hr : (Instr.loadAt t p).run P w = .ok v w) (hK : K (a.put (some d) v) w) : wpOp P ops Q i K a w :=
  wpCan_val hop (fun o ho => by unfold execOp; rw [ho]; dsimp only; rw [hs, Sem.run_bind, hr]; rfl) hK

theorem can_call {f : FuncId} {xs : Array Operand} {tys : Array TypeId} {args : Array Value} (hop : CanOp ops i (some d) (.call ⟨.value (.func f), xs, tys⟩) a) (hargs : xs.map a.eval = args) (hrun : (callFunc f args).run P w = .ok (.enter f args) w)
    (hC : Calls P f args w fun e w' => ∃ v, e = .returned v ∧ K (a.put (some d) v) w') : wpOp P ops Q i K a w := by
  refine wpCan_calls hop (fun o ho => ?_) hC
  unfold execOp
  rw [ho]
  dsimp only
  unfold resolve
  dsimp only
  rw [hargs]
  show Sem.run P (callFunc f ((#[] ++ args) ++ #[])) w = _
  rw [Array.append_empty, Array.empty_append]
  exact hrun

end

end Go.Proofs.Ytckfdbjjjgfbfaa

namespace Go.Proofs.Ytckfdbjjjgfbfaa
set_option linter.unusedVariables false
set_option linter.unusedSimpArgs false
open Go.RowKit

/-- The operation with number i, guarded by the one with number g (which must have yielded b). -/
abbrev IsOpB (ops : Array Oper) (i : Nat) (dst : Option Tmp) (op : Op) (g : Nat) (b : Bool) : Prop := (ops[i]?).map (fun o => (o.dst, o.op, o.guard)) = some (dst, op, some (g, b))

theorem yields {ops : Array Oper} {g d : Nat} {op' : Op} {a : Act} {c : Bool} (hg : IsOp ops g (some d) op') (hs : a.eval (.tmp d) = .bool c) : yielded ops a.tmps g = some c := by
  obtain ⟨o', h1, _, h3, _⟩ := isOp hg
  have ht : a.tmps[d]? = some (.bool c) := by
    simp only [Act.eval, Array.getD_eq_getD_getElem?] at hs
    cases hd : a.tmps[d]? with
    | none => rw [hd] at hs; cases hs
    | some v => rw [hd] at hs; simp only [Option.getD_some] at hs; rw [hs]
  unfold yielded
  rw [h1]
  simp only [Option.bind_some, h3, ht]

theorem IsOpB.op {ops : Array Oper} {i g : Nat} {dst : Option Tmp} {op : Op} {b : Bool} (h : IsOpB ops i dst op g b) : ∃ o, ops[i]? = some o ∧ o.dst = dst ∧ o.op = op ∧ o.guard = some (g, b) := by
  unfold IsOpB at h
  cases ho : ops[i]? with
  | none => rw [ho] at h; cases h
  | some o =>
    rw [ho] at h
    simp only [Option.map_some, Option.some.injEq, Prod.mk.injEq] at h
    exact ⟨o, rfl, h.1, h.2.1, h.2.2⟩

theorem IsOpB.can {ops : Array Oper} {i g d : Nat} {dst : Option Tmp} {op op' : Op} {a : Act} {b : Bool} (h : IsOpB ops i dst op g b) (hg : IsOp ops g (some d) op') (hs : a.eval (.tmp d) = .bool b) : CanOp ops i dst op a := by
  obtain ⟨o, ho, h1, h2, h3⟩ := h.op
  refine ⟨o, ho, ?_, h1, h2⟩
  unfold Region.wanted
  rw [h3]
  simp only [yields hg hs]
  exact beq_self_eq_true _

section
variable {P : Program} {ops : Array Oper} {Q : Exit → Act → World → Prop} {K : Act → World → Prop} {a : Act} {w w' : World} {i d : Nat} {v : Value}

theorem IsOpB.skip {g e : Nat} {op op' : Op} {b : Bool} (h : IsOpB ops i (some d) op g b) (hg : IsOp ops g (some e) op') (hs : a.eval (.tmp e) = .bool (!b)) (hK : K (a.put (some d) undef) w) : wpOp P ops Q i K a w := by
  obtain ⟨o, ho, h1, _, h3⟩ := h.op
  have hw : Region.wanted o (yielded ops a.tmps) = false := by
    unfold Region.wanted
    rw [h3]
    simp only [yields hg hs]
    cases b <;> rfl
  unfold wpOp
  rw [ho]
  simp only [hw]
  rw [h1]
  exact hK

theorem can_move {x : Operand} (hop : CanOp ops i (some d) (.move x) a) (hs : a.eval x = v) (hK : K (a.put (some d) v) w) : wpOp P ops Q i K a w :=
  wpCan_val hop (fun o ho => by unfold execOp; rw [ho]; dsimp only; rw [hs]; rfl) hK

end

end Go.Proofs.Ytckfdbjjjgfbfaa

namespace Go.Proofs.Ytckfdbjjjgfbfaa
set_option linter.unusedVariables false
set_option linter.unusedSimpArgs false
open Go.RowKit

/-- How an element lies: its type, how many cells it has, which. -/
structure Enc (α : Type) where
  t : TypeId
  m : Nat
  cells : α → List Value
  len : ∀ a, (cells a).length = m

/-- A row of a call's own. -/
def OwnG {α : Type} (e : Enc α) (w : World) (base : Nat) (v : Value) (L : List α) : Prop := w.ownsRow base e.t e.m v L.length (L.flatMap e.cells)

/-- A row that can be read. -/
def RowG {α : Type} (e : Enc α) (w : World) (a : Option Addr) (L : List α) : Prop :=
  0 < L.length → ∃ g o, a = some ⟨g, o, none⟩ ∧ g < w.heap.size ∧ ∀ i (h : i < L.length) k, k < e.m → w.cell? ⟨g, o + i * e.m + k, none⟩ = (e.cells L[i])[k]?

theorem flatG_len {α : Type} (e : Enc α) : ∀ L : List α, (L.flatMap e.cells).length = L.length * e.m
  | [] => by simp
  | a :: r => by rw [List.flatMap_cons, List.length_append, e.len, flatG_len e r, List.length_cons, Nat.succ_mul]; omega

theorem flatG_at {α : Type} (e : Enc α) : ∀ (L : List α) (i : Nat) (h : i < L.length) (k : Nat), k < e.m → (L.flatMap e.cells)[i * e.m + k]? = (e.cells L[i])[k]?
  | [], i, h, _, _ => absurd h (Nat.not_lt_zero i)
  | a :: r, 0, _, k, hk => by
    rw [List.flatMap_cons, Nat.zero_mul, Nat.zero_add, List.getElem?_append_left (by rw [e.len]; exact hk)]
    rfl
  | a :: r, i + 1, h, k, hk => by
    rw [List.flatMap_cons, List.getElem?_append_right (by rw [e.len, Nat.succ_mul]; omega), e.len, show (i + 1) * e.m + k - e.m = i * e.m + k by rw [Nat.succ_mul]; omega]
    exact flatG_at e r i (by simpa using h) k hk

theorem OwnG.below {α : Type} {e : Enc α} {w w' : World} {base : Nat} {v : Value} {L : List α} (h : OwnG e w base v L) (hb : Below w.heap.size w w') : OwnG e w' base v L := by
  refine World.ownsRow.kept h (row := none) ⟨hb.os, hb.tape, hb.output, hb.size, fun i hi _ => hb.block i hi⟩ ?_
  cases v.ownBlock <;> simp

theorem OwnG.drewN {α : Type} {e : Enc α} {w : World} {base : Nat} {v : Value} {L : List α} (h : OwnG e w base v L) (k : Nat) : OwnG e (w.drewN k) base v L := h

theorem OwnG.up {α : Type} {e : Enc α} {w : World} {base n : Nat} {v : Value} {L : List α} (h : OwnG e w base v L) (hn : ∀ g, v.ownBlock = some g → n ≤ g) : OwnG e w n v L := by
  obtain ⟨h1, h2⟩ := h
  refine ⟨h1, ?_⟩
  rcases h2 with h2 | ⟨g, cap, cur, rfl, hb, rest⟩
  · exact .inl h2
  · exact .inr ⟨g, cap, cur, rfl, hn g rfl, rest⟩

theorem OwnG.len {α : Type} {e : Enc α} {w : World} {base : Nat} {v : Value} {L : List α} (h : OwnG e w base v L) : ∃ a cap, v = .slice a L.length cap ∧ L.length ≤ cap := by
  rcases h.2 with ⟨rfl, hn⟩ | ⟨g, cap, cur, rfl, _, _, hc, _⟩
  · exact ⟨none, 0, by rw [hn], by omega⟩
  · exact ⟨_, _, rfl, hc⟩

theorem OwnG.row {α : Type} {e : Enc α} {w : World} {base : Nat} {a : Option Addr} {n cap : Nat} {L : List α} (h : OwnG e w base (.slice a n cap) L) : n = L.length ∧ RowG e w a L := by
  have h' := h
  obtain ⟨_, h2⟩ := h
  rcases h2 with ⟨h2, hn⟩ | ⟨g, cap', cur, ev, hb, hh, hnc, _⟩
  · simp only [Value.slice.injEq] at h2
    exact ⟨by omega, fun h0 => by omega⟩
  · simp only [Value.slice.injEq] at ev
    obtain ⟨rfl, rfl, rfl⟩ := ev
    refine ⟨rfl, fun _ => ⟨g, 0, rfl, (Array.getElem?_eq_some_iff.1 hh).1, fun i hi k hk => ?_⟩⟩
    rw [Nat.zero_add]
    have hlt : i * e.m + k < L.length * e.m := by
      have : (i + 1) * e.m ≤ L.length * e.m := Nat.mul_le_mul_right _ hi
      rw [Nat.succ_mul] at this
      omega
    exact (World.ownsRow.cellAt h' _ hlt).trans (flatG_at e L i hi k hk)

theorem RowG.below {α : Type} {e : Enc α} {w w' : World} {a : Option Addr} {L : List α} (h : RowG e w a L) (hb : Below w.heap.size w w') : RowG e w' a L := fun h0 => by
  obtain ⟨g, o, rfl, hg, hc⟩ := h h0
  refine ⟨g, o, rfl, Nat.lt_of_lt_of_le hg hb.size, fun i hi k hk => ?_⟩
  rw [← hc i hi k hk]
  exact hb.cell (p := ⟨g, o + i * e.m + k, none⟩) hg

theorem RowG.none {α : Type} (e : Enc α) (w : World) (a : Option Addr) : RowG e w a [] := fun h => absurd h (Nat.lt_irrefl 0)

theorem OwnG.none {α : Type} (e : Enc α) (w : World) (base : Nat) : OwnG e w base (.slice .none 0 0) [] := World.ownsRow_nil w base e.t e.m

/-- A row of a call's own, in the blocks from lo up to hi. -/
def SegG {α : Type} (e : Enc α) (w : World) (lo hi : Nat) (v : Value) (L : List α) : Prop := OwnG e w lo v L ∧ ∀ k, v.ownBlock = some k → k < hi

theorem SegG.of {α : Type} {e : Enc α} {w : World} {lo : Nat} {v : Value} {L : List α} (h : OwnG e w lo v L) : SegG e w lo w.heap.size v L := ⟨h, fun k ek => ((World.ownsRow.lt h) k ek).2⟩

theorem SegG.below {α : Type} {e : Enc α} {w w' : World} {lo hi : Nat} {v : Value} {L : List α} (h : SegG e w lo hi v L) (hb : Below w.heap.size w w') : SegG e w' lo hi v L := ⟨h.1.below hb, h.2⟩

theorem SegG.drew {α : Type} {e : Enc α} {w : World} {lo hi : Nat} {v : Value} {L : List α} (h : SegG e w lo hi v L) : SegG e w.drew lo hi v L := h

theorem SegG.span {α : Type} {e : Enc α} {w w' : World} {lo hi lo' hi' : Nat} {v : Value} {L : List α} (h : SegG e w lo hi v L) (hs : Span lo' hi' w w') (hd : hi ≤ lo' ∨ hi' ≤ lo) : SegG e w' lo hi v L := by
  refine ⟨?_, h.2⟩
  obtain ⟨h1, h2⟩ := h.1
  refine ⟨h1, ?_⟩
  rcases h2 with hn | ⟨g, cap, cur, hv, hb, hg, hrest⟩
  · exact .inl hn
  · have hgl : g < hi := h.2 g (by rw [hv]; rfl)
    exact .inr ⟨g, cap, cur, hv, hb, (hs.block g (Array.getElem?_eq_some_iff.1 hg).1 (by omega)).trans hg, hrest⟩

theorem SegG.row {α : Type} {e : Enc α} {w : World} {lo hi : Nat} {a : Option Addr} {n cap : Nat} {L : List α} (h : SegG e w lo hi (.slice a n cap) L) : RowG e w a L := (OwnG.row h.1).2

theorem SegG.len {α : Type} {e : Enc α} {w : World} {lo hi : Nat} {v : Value} {L : List α} (h : SegG e w lo hi v L) : ∃ a cap, v = .slice a L.length cap ∧ L.length ≤ cap := h.1.len

/-- A whole number an element: []int. -/
def encI : Enc Int := ⟨3, 1, fun n => [.int .i64 n], fun _ => rfl⟩

end Go.Proofs.Ytckfdbjjjgfbfaa
