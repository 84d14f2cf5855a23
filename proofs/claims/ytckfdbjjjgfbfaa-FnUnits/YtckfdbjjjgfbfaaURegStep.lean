/-
  A region that leaves its order open, by facts on the operations that are done: the law, and what each kind of operation wants.
-/
import Derived.Test.YtckfdbjjjgfbfaaUSpan
namespace Go.Proofs.Ytckfdbjjjgfbfaa
set_option linter.unusedVariables false
set_option linter.unusedSimpArgs false
open Go.RowKit

/-- The operations of the region with number n. -/
def regionOps (n : Nat) : Code → Option (Array Oper)
  | .region id ops _ => if id == n then some ops else none
  | .seq a b => (regionOps n a).orElse fun _ => regionOps n b
  | .cond _ a b => (regionOps n a).orElse fun _ => regionOps n b
  | .block _ c => regionOps n c
  | .loop c => regionOps n c
  | .scope c => regionOps n c
  | .rangeFunc _ _ a b => (regionOps n a).orElse fun _ => regionOps n b
  | _ => none

/-- No operation waits for a later one. -/
def backward (ops : Array Oper) : Bool := (List.range ops.size).all fun i => ((ops[i]?).map (·.after.all fun e => decide (e.on < i) || !Region.binds .any e)).getD true

theorem all_listed {ops : Array Oper} {listed : Array Bool} (hb : backward ops = true) (hr : Region.ready .any ops listed = []) (hs : listed.size = ops.size) :
    ∀ n j, j < n → j < ops.size → listed.getD j false = true
  | 0, j, h, _ => absurd h (Nat.not_lt_zero j)
  | n + 1, j, h, hj => by
    have ih := all_listed hb hr hs n
    cases hl : listed.getD j true with
    | true =>
      rw [Array.getD_eq_getD_getElem?, Array.getElem?_eq_getElem (by omega)] at hl ⊢
      exact hl
    | false =>
      have hm : j ∈ Region.ready .any ops listed := by
        refine mem_ready.2 ⟨hl, ops[j], Array.getElem?_eq_getElem hj, fun e he hbd => ?_⟩
        have hlt : e.on < j := by
          unfold backward at hb
          have h1 := List.all_eq_true.1 hb j (List.mem_range.2 hj)
          rw [Array.getElem?_eq_getElem hj] at h1
          simp only [Option.map_some, Option.getD_some] at h1
          have h2 := Array.all_eq_true_iff_forall_mem.1 h1 e he
          rw [hbd, Bool.not_true, Bool.or_false] at h2
          exact of_decide_eq_true h2
        exact ih e.on (by omega) (by omega)
      rw [hr] at hm
      cases hm

/-- THE LAW: a property of what is done, the frame and the world, that each operation keeps which may come next. -/
theorem wp_region_facts {P : Program} {ops : Array Oper} {Q : Exit → Act → World → Prop} (hm : P.follows .mixedOrders = true) (hb : backward ops = true)
    (I : (Nat → Prop) → Act → World → Prop)
    (hstep : ∀ i, i < ops.size → ∀ (D : Nat → Prop) a w, ¬ D i → (∀ o, ops[i]? = some o → ∀ e ∈ o.after, Region.binds .any e = true → D e.on) → I D a w → wpOp P ops Q i (I fun j => j = i ∨ D j) a w)
    (hdone : ∀ D a w, (∀ j, j < ops.size → D j) → I D a w → Q .normal a w)
    (id : Nat) (a : Act) (w : World) (h0 : I (fun _ => False) a w.drew) : (Code.region id ops true).wp P Q a w := by
  refine wp_region_any hm ?_
  refine wpAny_inv (fun listed a w => listed.size = ops.size ∧ I (fun j => listed.getD j false = true) a w) ?_ ?_ _ _ _ _ ?_ ?_
  · intro listed a w i hi ⟨hs, hI⟩
    obtain ⟨h1, o, ho, hall⟩ := mem_ready.1 hi
    have hlt : i < ops.size := (Array.getElem?_eq_some_iff.1 ho).1
    have hn : ¬ listed.getD i false = true := by
      rw [Array.getD_eq_getD_getElem?, Array.getElem?_eq_getElem (by omega)] at h1 ⊢
      rw [show listed[i] = false from h1]
      exact Bool.false_ne_true
    refine wpOp_mono ?_ (hstep i hlt _ a w hn (fun o' ho' e he hbd => by rw [ho] at ho'; cases ho'; exact hall e he hbd) hI)
    intro a' w' h
    refine ⟨by rw [Array.size_setIfInBounds]; exact hs, ?_⟩
    have e : (fun j => (listed.setIfInBounds i true).getD j false = true) = fun j => j = i ∨ listed.getD j false = true := by
      funext j
      by_cases hj : j = i
      · subst hj
        rw [Array.getD_eq_getD_getElem?, Array.getElem?_setIfInBounds_self_of_lt (by omega)]
        simp
      · rw [getD_set_ne false (Ne.symm hj)]
        simp [hj]
    rw [e]
    exact h
  · intro listed a w hr ⟨hs, hI⟩
    exact hdone _ a w (fun j hj => all_listed hb hr hs (j + 1) j (Nat.lt_succ_self j) hj) hI
  · unfold undone
    exact Nat.le_trans (List.length_filter_le _ _) (by simp)
  · refine ⟨by simp, ?_⟩
    have e : (fun j => (Array.replicate ops.size false).getD j false = true) = fun _ => False := by
      funext j
      rw [Array.getD_eq_getD_getElem?, Array.getElem?_replicate]
      split <;> simp
    rw [e]
    exact h0

/-- The operation with number i, without a guard. -/
abbrev IsOp (ops : Array Oper) (i : Nat) (dst : Option Tmp) (op : Op) : Prop := (ops[i]?).map (fun o => (o.dst, o.op, o.guard)) = some (dst, op, none)

theorem isOp {ops : Array Oper} {i : Nat} {dst : Option Tmp} {op : Op} (h : IsOp ops i dst op) : ∃ o, ops[i]? = some o ∧ o.guard = none ∧ o.dst = dst ∧ o.op = op := by
  unfold IsOp at h
  cases ho : ops[i]? with
  | none => rw [ho] at h; cases h
  | some o =>
    rw [ho] at h
    simp only [Option.map_some, Option.some.injEq, Prod.mk.injEq] at h
    exact ⟨o, rfl, h.2.2, h.1, h.2.1⟩

/-- The operation with number i waits for the one with number j. -/
abbrev Waits (ops : Array Oper) (i j : Nat) : Prop := ((ops[i]?).map fun o => o.after.any fun e => Region.binds .any e && e.on == j).getD false = true

theorem waits {ops : Array Oper} {i j : Nat} {D : Nat → Prop} (h : Waits ops i j) (hd : ∀ o, ops[i]? = some o → ∀ e ∈ o.after, Region.binds .any e = true → D e.on) : D j := by
  unfold Waits at h
  cases ho : ops[i]? with
  | none => rw [ho] at h; cases h
  | some o =>
    rw [ho] at h
    simp only [Option.map_some, Option.getD_some] at h
    obtain ⟨e, he, hb⟩ := Array.any_eq_true'.1 h
    rw [Bool.and_eq_true, beq_iff_eq] at hb
    have := hd o ho e he hb.1
    rwa [hb.2] at this

section
variable {P : Program} {ops : Array Oper} {Q : Exit → Act → World → Prop} {K : Act → World → Prop} {a : Act} {w w' : World} {i d : Nat} {v : Value}

theorem wpOp_of {o : Oper} (ho : ops[i]? = some o) (hg : o.guard = none) (h : Oper.wp P o a w K Q) : wpOp P ops Q i K a w := by
  unfold wpOp
  rw [ho]
  have hw : Region.wanted o (yielded ops a.tmps) = true := by unfold Region.wanted; rw [hg]
  simp only [hw, if_true]
  exact .inl h

theorem wpOp_val {op : Op} (hop : IsOp ops i (some d) op) (h : ∀ o, o.op = op → (execOp a.eval o).run P w = .ok (.value v) w') (hK : K (a.put (some d) v) w') : wpOp P ops Q i K a w := by
  obtain ⟨o, h1, h2, h3, h4⟩ := isOp hop
  refine wpOp_of h1 h2 ?_
  unfold Oper.wp
  rw [h o h4, Oper.upon_value, h3]
  exact hK

theorem wpOp_unit {op : Op} (hop : IsOp ops i none op) (h : ∀ o, o.op = op → (execOp a.eval o).run P w = .ok .skip w') (hK : K a w') : wpOp P ops Q i K a w := by
  obtain ⟨o, h1, h2, h3, h4⟩ := isOp hop
  refine wpOp_of h1 h2 ?_
  unfold Oper.wp
  rw [h o h4, Oper.upon_skip, h3]
  exact hK

theorem wpOp_calls {op : Op} {f : FuncId} {args : Array Value} (hop : IsOp ops i (some d) op) (h : ∀ o, o.op = op → (execOp a.eval o).run P w = .ok (.enter f args) w)
    (hC : Calls P f args w fun e w' => ∃ v, e = .returned v ∧ K (a.put (some d) v) w') : wpOp P ops Q i K a w := by
  obtain ⟨o, h1, h2, h3, h4⟩ := isOp hop
  refine wpOp_of h1 h2 ?_
  unfold Oper.wp
  rw [h o h4, Oper.upon_enter, h3]
  refine hC.mono ?_
  rintro e w'' ⟨v, rfl, hk⟩
  exact hk

theorem op_move {x : Operand} (hop : IsOp ops i (some d) (.move x)) (hs : a.eval x = v) (hK : K (a.put (some d) v) w) : wpOp P ops Q i K a w :=
  wpOp_val hop (fun o ho => by unfold execOp; rw [ho]; dsimp only; rw [hs]; rfl) hK

theorem op_assign {x : Operand} (hop : IsOp ops i (some d) (.assign x)) (hs : a.eval x = v) (hK : K (a.put (some d) v) w) : wpOp P ops Q i K a w :=
  wpOp_val hop (fun o ho => by unfold execOp; rw [ho]; dsimp only; rw [hs]; rfl) hK

theorem op_load {t : TypeId} {x : Operand} {p : Value} (hop : IsOp ops i (some d) (.load t x)) (hs : a.eval x = p) (hr : (Instr.loadAt t p).run P w = .ok v w) (hK : K (a.put (some d) v) w) : wpOp P ops Q i K a w :=
  wpOp_val hop (fun o ho => by unfold execOp; rw [ho]; dsimp only; rw [hs, Sem.run_bind, hr]; rfl) hK

theorem op_alloc {t : TypeId} (hop : IsOp ops i (some d) (.alloc t)) (hr : (Instr.alloc t true (.tuple #[])).run P w = .ok v w') (hK : K (a.put (some d) v) w') : wpOp P ops Q i K a w :=
  wpOp_val hop (fun o ho => by unfold execOp; rw [ho]; dsimp only; rw [Sem.run_bind, hr]; rfl) hK

theorem op_store {t : TypeId} {x y : Operand} {p : Value} (hop : IsOp ops i none (.store t x y)) (hs : a.eval x = p) (hy : a.eval y = v) (hr : (Instr.storeAt t p v).run P w = .ok () w') (hK : K a w') : wpOp P ops Q i K a w :=
  wpOp_unit hop (fun o ho => by unfold execOp; rw [ho]; dsimp only; rw [hs, hy, Sem.run_bind, hr]; rfl) hK

theorem op_bytes {t : TypeId} {n : Nat} {ps : Array (Nat × Operand)} (hop : IsOp ops i (some d) (.buildSlice t n ps)) (hr : (Instr.buildSlice t n (ps.map fun (k, x) => (k, a.eval x))).run P w = .ok v w') (hK : K (a.put (some d) v) w') : wpOp P ops Q i K a w :=
  wpOp_val hop (fun o ho => by unfold execOp; rw [ho]; dsimp only; rw [Sem.run_bind, hr]; rfl) hK

theorem eval_const {u : Value} : a.eval (.const u) = u := rfl

theorem eval_put_self (h : d < a.tmps.size) : (a.put (some d) v).eval (.tmp d) = v := by
  simp [Act.eval, Act.put, h]

theorem eval_put_ne {t : Nat} (h : t ≠ d) : (a.put (some d) v).eval (.tmp t) = a.eval (.tmp t) := by
  simp [Act.eval, Act.put, Array.getElem?_setIfInBounds_ne (Ne.symm h)]

end

/-- A frame that differs from another one in the slots ws alone. -/
structure FrameIs (a0 : Act) (ws : List Nat) (a : Act) : Prop where
  defers : a.defers = a0.defers
  size : a.tmps.size = a0.tmps.size
  keep : ∀ t, t ∉ ws → a.tmps[t]? = a0.tmps[t]?

theorem FrameIs.refl (a0 : Act) (ws : List Nat) : FrameIs a0 ws a0 := ⟨rfl, rfl, fun _ _ => rfl⟩

theorem FrameIs.put {a0 a : Act} {ws : List Nat} (h : FrameIs a0 ws a) {d : Nat} (hd : d ∈ ws) (v : Value) : FrameIs a0 ws (a.put (some d) v) :=
  ⟨h.defers, by show (a.tmps.setIfInBounds d v).size = _; rw [Array.size_setIfInBounds]; exact h.size, fun t ht => by
    show (a.tmps.setIfInBounds d v)[t]? = _
    rw [Array.getElem?_setIfInBounds_ne (fun e => ht (by rw [← e]; exact hd))]
    exact h.keep t ht⟩

theorem FrameIs.eval {a0 a : Act} {ws : List Nat} (h : FrameIs a0 ws a) {t : Nat} (ht : t ∉ ws) : a.eval (.tmp t) = a0.eval (.tmp t) := by
  simp only [Act.eval, Array.getD_eq_getD_getElem?]
  rw [h.keep t ht]

/-- The slots ws of an array, set to what f tells. -/
def putAll (b : Array Value) (f : Nat → Value) : List Nat → Array Value
  | [] => b
  | k :: r => putAll (b.setIfInBounds k (f k)) f r

theorem putAll_at (f : Nat → Value) : ∀ (ws : List Nat) (b : Array Value) (t : Nat), (putAll b f ws)[t]? = if t ∈ ws ∧ t < b.size then some (f t) else b[t]?
  | [], b, t => by simp [putAll]
  | k :: r, b, t => by
    show (putAll (b.setIfInBounds k (f k)) f r)[t]? = _
    rw [putAll_at f r, Array.size_setIfInBounds]
    by_cases h1 : t ∈ r
    · by_cases h2 : t < b.size
      · simp [h1, h2]
      · rw [if_neg (by simp [h2]), if_neg (by simp [h2]), Array.getElem?_eq_none (by rw [Array.size_setIfInBounds]; omega), Array.getElem?_eq_none (by omega)]
    · by_cases hk : t = k
      · subst hk
        by_cases h2 : t < b.size
        · rw [if_neg (by simp [h1]), if_pos (by simp [h2]), Array.getElem?_setIfInBounds_self_of_lt h2]
        · rw [if_neg (by simp [h1]), if_neg (by simp [h2]), Array.getElem?_eq_none (by rw [Array.size_setIfInBounds]; omega), Array.getElem?_eq_none (by omega)]
      · rw [if_neg (by simp [h1]), if_neg (by simp [h1, hk]), Array.getElem?_setIfInBounds_ne (Ne.symm hk)]

theorem FrameIs.eq {a0 a : Act} {ws : List Nat} (h : FrameIs a0 ws a) : a = ⟨putAll a0.tmps (fun t => a.eval (.tmp t)) ws, a0.defers⟩ := by
  obtain ⟨T, df⟩ := a
  have hd : df = a0.defers := h.defers
  subst hd
  congr 1
  refine Array.ext_getElem? fun t => ?_
  rw [putAll_at]
  split
  · rename_i ht
    have hs : t < T.size := by have := h.size; dsimp only at this; omega
    simp [Act.eval, hs]
  · rename_i ht
    by_cases h2 : t < a0.tmps.size
    · exact h.keep t (fun e => ht ⟨e, h2⟩)
    · have := h.size
      dsimp only at this
      rw [Array.getElem?_eq_none (by omega), Array.getElem?_eq_none (by omega)]

end Go.Proofs.Ytckfdbjjjgfbfaa
