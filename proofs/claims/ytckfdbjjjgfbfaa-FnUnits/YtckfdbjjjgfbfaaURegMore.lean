/-
  Regions that leave their order open: a fact that waits for one operation.
-/
import Derived.Test.YtckfdbjjjgfbfaaUStepS
import Derived.Test.YtckfdbjjjgfbfaaUBus
import Derived.StillTailTactics
import Derived.Test.YtckfdbjjjgfbfaaURamB
import Derived.Test.YtckfdbjjjgfbfaaUSpan
import Derived.Deep.RegionHeld3
import Derived.Test.YtckfdbjjjgfbfaaUAluNum
import Derived.Test.YtckfdbjjjgfbfaaURegStep
import Derived.Laws.Tables
namespace Go.Proofs.Ytckfdbjjjgfbfaa
set_option linter.unusedVariables false
set_option linter.unusedSimpArgs false
open Go.RowKit

/-- As many bytes, and not more than n cycles more. -/
def Grew (b b' : BusN) (n : Nat) : Prop := b'.mem.length = b.mem.length ∧ b'.log.length ≤ b.log.length + n

theorem Grew.same (b : BusN) (n : Nat) : Grew b b n := ⟨rfl, by omega⟩
theorem Grew.rd {b b' : BusN} {n a : Nat} (h : Grew b b' n) : Grew b (b'.rd a) (n + 1) := ⟨h.1, by have := h.2; simp [BusN.rd]; omega⟩
theorem Grew.put {b b' : BusN} {n a d : Nat} (h : Grew b b' n) : Grew b (b'.put a d) (n + 1) := ⟨by have := h.1; simp [BusN.put]; exact this, by have := h.2; simp [BusN.put]; omega⟩
theorem Grew.mono {b b' : BusN} {n m : Nat} (h : Grew b b' n) (hm : n ≤ m) : Grew b b' m := ⟨h.1, by have := h.2; omega⟩

theorem placeN_grew {b0 b : BusN} {n : Nat} (h : Grew b0 b n) (c : CpuN) (m k : Int) : Grew b0 (placeN b c m k).2 (n + 4) := by
  unfold placeN baseN
  dsimp only
  repeat' split
  all_goals first
    | with_reducible exact h.rd.rd.rd.rd
    | with_reducible exact h.rd.rd.rd.mono (by omega)
    | with_reducible exact h.rd.rd.mono (by omega)
    | with_reducible exact h.rd.mono (by omega)

theorem pushN_grew {b0 b : BusN} {n : Nat} (h : Grew b0 b n) (c : CpuN) (pc : Nat) (brk : Bool) (v : Nat) : Grew b0 (pushN b c pc brk v).2 (n + 5) := h.put.put.put.rd.rd

theorem branchN_grew {b0 b : BusN} {n : Nat} (h : Grew b0 b n) (c : CpuN) (l : List UInt8) : Grew b0 (branchN b c l).2 (n + 5) := by
  unfold branchN
  dsimp only
  split
  · dsimp only
    split
    · exact h.rd.rd.mono (by omega)
    · exact h.rd.rd.rd.mono (by omega)
  · exact h.rd.mono (by omega)

theorem holdN_grew {b0 b : BusN} {n : Nat} (h : Grew b0 b n) (c : CpuN) (l : List UInt8) : Grew b0 (holdN b c l).2 (n + 4) := by
  unfold holdN
  dsimp only
  repeat' split
  all_goals first
    | with_reducible exact h.rd.rd.mono (by omega)
    | with_reducible exact h.put.mono (by omega)

theorem goN_grew {b0 b : BusN} {n : Nat} (h : Grew b0 b n) (c : CpuN) (l : List UInt8) (m : Int) : Grew b0 (goN b c l m).2 (n + 6) := by
  unfold goN
  dsimp only
  repeat' split
  all_goals first
    | with_reducible exact (pushN_grew h.rd _ _ _ _).mono (by omega)
    | with_reducible exact (holdN_grew h.rd _ _).mono (by omega)
    | with_reducible exact h.rd.rd.rd.rd.rd.mono (by omega)
    | with_reducible exact h.rd.rd.put.put.rd.mono (by omega)
    | with_reducible exact h.rd.rd.rd.rd.mono (by omega)
    | with_reducible exact h.rd.rd.mono (by omega)

theorem dataN_grew {b0 b : BusN} {n : Nat} (h : Grew b0 b n) (c : CpuN) (code : Nat) : Grew b0 (dataN b c code).2 (n + 7) := by
  unfold dataN
  dsimp only
  repeat' split
  all_goals first
    | with_reducible exact h.rd.mono (by omega)
    | with_reducible exact (placeN_grew h _ _ _).rd.mono (by omega)
    | with_reducible exact (placeN_grew h _ _ _).put.mono (by omega)
    | with_reducible exact (placeN_grew h _ _ _).rd.put.put.mono (by omega)

theorem opN_grew (b : BusN) (c : CpuN) : Grew b (opN b c).2 8 := by
  have h := (Grew.same b 0).rd (a := c.PC)
  unfold opN
  dsimp only
  repeat' split
  all_goals first
    | with_reducible exact h.rd.mono (by omega)
    | with_reducible exact (branchN_grew h _ _).mono (by omega)
    | with_reducible exact (dataN_grew h _ _).mono (by omega)
    | with_reducible exact (goN_grew h _ _ _).mono (by omega)

theorem stepN_len (c : CpuN) (L : List Nat) : (stepN c L).2.mem.length ≤ L.length ∧ (stepN c L).2.log.length ≤ 8 := by
  unfold stepN
  split
  · split
    · exact ⟨Nat.le_refl _, by simp⟩
    · have h := opN_grew ⟨L, []⟩ c
      exact ⟨by have := h.1; simpa using Nat.le_of_eq this, by simpa using h.2⟩
  · exact ⟨by simp, by simp⟩

theorem servedN_len (c : CpuN) (L : List Nat) (nmi : Bool) : (servedN c L nmi).2.mem.length ≤ L.length ∧ (servedN c L nmi).2.log.length ≤ 8 := by
  unfold servedN
  split
  · have h := pushN_grew (((Grew.same ⟨L, []⟩ 0).rd (a := c.PC)).rd (a := c.PC)) c c.PC false (if nmi then 65530 else 65534)
    exact ⟨Nat.le_of_eq h.1, Nat.le_trans h.2 (by simp)⟩
  · exact ⟨by simp, by simp⟩

end Go.Proofs.Ytckfdbjjjgfbfaa

namespace Go.Proofs.Ytckfdbjjjgfbfaa
set_option linter.unusedVariables false
set_option linter.unusedSimpArgs false
open Go.RowKit

/-- A row of cycles that can be read. -/
def RowC (w : World) (a : Option Addr) (L : List CycN) : Prop :=
  0 < L.length → ∃ g o, a = some ⟨g, o, none⟩ ∧ g < w.heap.size ∧ ∀ i (h : i < L.length), w.cell? ⟨g, o + i * 3, none⟩ = some (.int .u16 (L[i].addr : Int)) ∧ w.cell? ⟨g, o + i * 3 + 1, none⟩ = some (.int .u8 (L[i].data : Int)) ∧ w.cell? ⟨g, o + i * 3 + 2, none⟩ = some (.bool L[i].wr)

theorem cyc_at (L : List CycN) : ∀ (i : Nat) (h : i < L.length), (L.flatMap cycCells)[i * 3]? = some (.int .u16 (L[i].addr : Int)) ∧ (L.flatMap cycCells)[i * 3 + 1]? = some (.int .u8 (L[i].data : Int)) ∧ (L.flatMap cycCells)[i * 3 + 2]? = some (.bool L[i].wr) := by
  induction L with
  | nil => intro i h; simp at h
  | cons c r ih =>
    intro i h
    cases i with
    | zero => simp [cycCells]
    | succ i =>
      have e1 : (i + 1) * 3 = i * 3 + 3 := by omega
      have e2 : (i + 1) * 3 + 1 = i * 3 + 1 + 3 := by omega
      have e3 : (i + 1) * 3 + 2 = i * 3 + 2 + 3 := by omega
      obtain ⟨h1, h2, h3⟩ := ih i (by simpa using h)
      rw [List.flatMap_cons, e2, e3, e1]
      refine ⟨?_, ?_, ?_⟩
      all_goals
        rw [List.getElem?_append_right (by simp [cycCells])]
        simp only [cycCells, List.length_cons, List.length_nil, Nat.zero_add, Nat.add_sub_cancel, List.getElem_cons_succ]
        assumption

theorem OwnC.row {w : World} {base : Nat} {a : Option Addr} {n cap : Nat} {L : List CycN} (h : OwnC w base (.slice a n cap) L) : n = L.length ∧ RowC w a L := by
  have h' := h
  obtain ⟨_, h2⟩ := h
  rcases h2 with ⟨h2, hn⟩ | ⟨g, cap', cur, e, hb, hh, hnc, _⟩
  · simp only [Value.slice.injEq] at h2
    refine ⟨by omega, fun h => by omega⟩
  · simp only [Value.slice.injEq] at e
    obtain ⟨rfl, rfl, rfl⟩ := e
    refine ⟨rfl, fun h0 => ⟨g, 0, rfl, (Array.getElem?_eq_some_iff.1 hh).1, fun i hi => ?_⟩⟩
    obtain ⟨c1, c2, c3⟩ := cyc_at L i hi
    simp only [Nat.zero_add]
    exact ⟨(World.ownsRow.cellAt h' (i * 3) (by omega)).trans c1, (World.ownsRow.cellAt h' (i * 3 + 1) (by omega)).trans c2, (World.ownsRow.cellAt h' (i * 3 + 2) (by omega)).trans c3⟩

theorem RowC.below {w w' : World} {a : Option Addr} {L : List CycN} (h : RowC w a L) (hb : Below w.heap.size w w') : RowC w' a L := fun h0 => by
  obtain ⟨g, o, rfl, hg, hc⟩ := h h0
  refine ⟨g, o, rfl, Nat.lt_of_lt_of_le hg hb.size, fun i hi => ?_⟩
  obtain ⟨h1, h2, h3⟩ := hc i hi
  exact ⟨cellKept hb h1 hg, cellKept hb h2 hg, cellKept hb h3 hg⟩

end Go.Proofs.Ytckfdbjjjgfbfaa

namespace Go.Proofs.Ytckfdbjjjgfbfaa
set_option linter.unusedVariables false
set_option linter.unusedSimpArgs false
open Go.RowKit

/-- A row of cycles of its own, in the blocks from lo up to hi. -/
def SegC (w : World) (lo hi : Nat) (v : Value) (L : List CycN) : Prop := OwnC w lo v L ∧ ∀ k, v.ownBlock = some k → k < hi

theorem SegC.below {w w' : World} {lo hi : Nat} {v : Value} {L : List CycN} (h : SegC w lo hi v L) (hb : Below w.heap.size w w') : SegC w' lo hi v L := ⟨ownC_below h.1 hb, h.2⟩

theorem SegC.drew {w : World} {lo hi : Nat} {v : Value} {L : List CycN} (h : SegC w lo hi v L) : SegC w.drew lo hi v L := h

theorem SegC.span {w w' : World} {lo hi lo' hi' : Nat} {v : Value} {L : List CycN} (h : SegC w lo hi v L) (hs : Span lo' hi' w w') (hd : hi ≤ lo' ∨ hi' ≤ lo) : SegC w' lo hi v L := by
  refine ⟨?_, h.2⟩
  obtain ⟨h1, h2⟩ := h.1
  refine ⟨h1, ?_⟩
  rcases h2 with hn | ⟨g, cap, cur, hv, hb, hg, hrest⟩
  · exact .inl hn
  · have hgl : g < hi := h.2 g (by rw [hv]; rfl)
    exact .inr ⟨g, cap, cur, hv, hb, (hs.block g (Array.getElem?_eq_some_iff.1 hg).1 (by omega)).trans hg, hrest⟩

theorem SegC.row {w : World} {lo hi : Nat} {a : Option Addr} {n cap : Nat} {L : List CycN} (h : SegC w lo hi (.slice a n cap) L) : RowC w a L := (OwnC.row h.1).2

/-- What such a call leaves. -/
def Steps3 (V : World) (r : CpuN × BusN) (e : Ending) (W : World) : Prop :=
  ∃ a cap a2 cap2 lo hi lo2 hi2, e = .returned (.tuple #[cpuV r.1, ramV (.slice a r.2.mem.length cap), .slice a2 r.2.log.length cap2]) ∧ SegB W lo hi (.slice a r.2.mem.length cap) r.2.mem ∧ SegC W lo2 hi2 (.slice a2 r.2.log.length cap2) r.2.log ∧
    (V.heap.size ≤ lo ∧ hi ≤ W.heap.size ∧ V.heap.size ≤ lo2 ∧ hi2 ≤ W.heap.size ∧ lo ≤ hi ∧ lo2 ≤ hi2 ∧ (hi ≤ lo2 ∨ hi2 ≤ lo)) ∧ Below V.heap.size V W

theorem Stepped.three {V W : World} {r : CpuN × BusN} {e : Ending} (h : Stepped V r e W) : Steps3 V r e W := by
  obtain ⟨v, u, rfl, ho, hc, hne, hb⟩ := h
  have hz := hb.size
  have B1 : ∃ a cap, v = .slice a r.2.mem.length cap ∧ ((∃ g, v.ownBlock = some g ∧ V.heap.size ≤ g ∧ g < W.heap.size) ∨ v.ownBlock = none) := by
    obtain ⟨h1, h2⟩ := ho.2
    rcases h2 with ⟨hn, h0⟩ | ⟨g, cp, cur, hv, hg, hh, _⟩
    · exact ⟨none, 0, by rw [hn]; rw [show r.2.mem.length = 0 by simpa using h0], .inr (by rw [hn]; rfl)⟩
    · exact ⟨_, _, hv, .inl ⟨g, by rw [hv]; rfl, hg, (Array.getElem?_eq_some_iff.1 hh).1⟩⟩
  have B2 : ∃ a cap, u = .slice a r.2.log.length cap ∧ ((∃ g, u.ownBlock = some g ∧ V.heap.size ≤ g ∧ g < W.heap.size) ∨ u.ownBlock = none) := by
    obtain ⟨h1, h2⟩ := hc
    rcases h2 with ⟨hn, h0⟩ | ⟨g, cp, cur, hv, hg, hh, _⟩
    · exact ⟨none, 0, by rw [hn]; rw [show r.2.log.length = 0 by simpa using h0], .inr (by rw [hn]; rfl)⟩
    · exact ⟨_, _, hv, .inl ⟨g, by rw [hv]; rfl, hg, (Array.getElem?_eq_some_iff.1 hh).1⟩⟩
  obtain ⟨a, cap, rfl, A1⟩ := B1
  obtain ⟨a2, cap2, rfl, A2⟩ := B2
  have own1 : ∀ n, (∀ k, (Value.slice a r.2.mem.length cap).ownBlock = some k → n ≤ k) → OwnB W n (.slice a r.2.mem.length cap) r.2.mem := fun n hn => ⟨ho.1, ownsRow_up ho.2 hn⟩
  have own2 : ∀ n, (∀ k, (Value.slice a2 r.2.log.length cap2).ownBlock = some k → n ≤ k) → OwnC W n (.slice a2 r.2.log.length cap2) r.2.log := fun n hn => ownsRow_up hc hn
  rcases A1 with ⟨g, e1, g1, g2⟩ | e1 <;> rcases A2 with ⟨g', e2, g3, g4⟩ | e2
  · refine ⟨a, cap, a2, cap2, g, g + 1, g', g' + 1, rfl, ⟨own1 g ?_, ?_⟩, ⟨own2 g' ?_, ?_⟩, ⟨g1, g2, g3, g4, by omega, by omega, ?_⟩, hb⟩
    · intro k ek; rw [e1] at ek; simp only [Option.some.injEq] at ek; omega
    · intro k ek; rw [e1] at ek; simp only [Option.some.injEq] at ek; omega
    · intro k ek; rw [e2] at ek; simp only [Option.some.injEq] at ek; omega
    · intro k ek; rw [e2] at ek; simp only [Option.some.injEq] at ek; omega
    · have : g ≠ g' := fun e => hne g e1 (by rw [e2, e])
      omega
  · refine ⟨a, cap, a2, cap2, g, g + 1, W.heap.size, W.heap.size, rfl, ⟨own1 g ?_, ?_⟩, ⟨own2 _ ?_, ?_⟩, ⟨g1, g2, hz, Nat.le_refl _, by omega, by omega, .inl (by omega)⟩, hb⟩
    · intro k ek; rw [e1] at ek; simp only [Option.some.injEq] at ek; omega
    · intro k ek; rw [e1] at ek; simp only [Option.some.injEq] at ek; omega
    · intro k ek; rw [e2] at ek; cases ek
    · intro k ek; rw [e2] at ek; cases ek
  · refine ⟨a, cap, a2, cap2, W.heap.size, W.heap.size, g', g' + 1, rfl, ⟨own1 _ ?_, ?_⟩, ⟨own2 g' ?_, ?_⟩, ⟨hz, Nat.le_refl _, g3, g4, by omega, by omega, .inr (by omega)⟩, hb⟩
    · intro k ek; rw [e1] at ek; cases ek
    · intro k ek; rw [e1] at ek; cases ek
    · intro k ek; rw [e2] at ek; simp only [Option.some.injEq] at ek; omega
    · intro k ek; rw [e2] at ek; simp only [Option.some.injEq] at ek; omega
  · refine ⟨a, cap, a2, cap2, W.heap.size, W.heap.size, W.heap.size, W.heap.size, rfl, ⟨own1 _ ?_, ?_⟩, ⟨own2 _ ?_, ?_⟩, ⟨hz, Nat.le_refl _, hz, Nat.le_refl _, by omega, by omega, .inl (by omega)⟩, hb⟩
    · intro k ek; rw [e1] at ek; cases ek
    · intro k ek; rw [e1] at ek; cases ek
    · intro k ek; rw [e2] at ek; cases ek
    · intro k ek; rw [e2] at ek; cases ek

theorem alw (W : World) (o : Obj) : Below W.heap.size W (W.alloc o) := (Below.refl _ _).alloc (Nat.le_refl _) _

end Go.Proofs.Ytckfdbjjjgfbfaa

namespace Go.Proofs.Ytckfdbjjjgfbfaa
set_option linter.unusedVariables false
set_option linter.unusedSimpArgs false
open Go.RowKit

theorem op_call {P : Program} {ops : Array Oper} {Q : Exit → Act → World → Prop} {K : Act → World → Prop} {a : Act} {w : World} {i d : Nat} {f : FuncId} {xs : Array Operand} {tys : Array TypeId} {args : Array Value}
    (hop : IsOp ops i (some d) (.call ⟨.value (.func f), xs, tys⟩)) (hargs : xs.map a.eval = args) (hrun : (callFunc f args).run P w = .ok (.enter f args) w)
    (hC : Calls P f args w fun e w' => ∃ v, e = .returned v ∧ K (a.put (some d) v) w') : wpOp P ops Q i K a w := by
  refine wpOp_calls hop (fun o ho => ?_) hC
  unfold execOp
  rw [ho]
  dsimp only
  unfold resolve
  dsimp only
  rw [hargs]
  show Sem.run P (callFunc f ((#[] ++ args) ++ #[])) w = _
  rw [Array.append_empty, Array.empty_append]
  exact hrun

theorem belowStepR {n : Nat} {V W w : World} (h : Below n V W) (k : Below W.heap.size W w) (hn : n ≤ V.heap.size) : Below n V w := h.trans (k.mono (Nat.le_trans hn h.size))

theorem loadIR {w : World} {B : Nat} {v : Value} (h : BoxN w B 30 #[v]) : (Instr.loadAt 30 (.pointer (some ⟨B, 0, none⟩))).run Try.prog w = .ok (ramV v) w := by
  have g0 := h.cell 0 _ rfl
  simp [go_sem, g0]

theorem store_whole {w : World} {B : Nat} {t : TypeId} {vs cs : Array Value} (h : BoxN w B t cs) (hz : cs.size = vs.size) (hi : (Try.prog.info? t).map (·.size) = some vs.size) (h1 : vs.all (·.oneCell') = true) :
    ∃ w', (Instr.storeAt t (.pointer (some ⟨B, 0, none⟩)) (.agg vs)).run Try.prog w = .ok () w' ∧ BoxN w' B t vs ∧ Span B (B + 1) w w' := by
  refine ⟨w.setRow B vs, ?_, setRow_heap w B cs vs t (0, 0) h, ⟨rfl, rfl, rfl, by simp [World.setRow], fun k _ hk => setRow_other w B k vs (by omega)⟩⟩
  simp only [Instr.storeAt, Instr.sureAddr, Sem.run_bind, Sem.run_pure, Result.andThen]
  exact run_storeVar_row _ _ t t cs vs h hi hz h1

theorem storeIR {w : World} {B : Nat} {a : Option Addr} {n cap : Nat} {cs : Array Value} (h : BoxN w B 30 cs) (hz : cs.size = 1) : ∃ w', (Instr.storeAt 30 (.pointer (some ⟨B, 0, none⟩)) (ramV (.slice a n cap))).run Try.prog w = .ok () w' ∧ BoxN w' B 30 #[.slice a n cap] ∧ Span B (B + 1) w w' :=
  store_whole (vs := #[.slice a n cap]) h hz (by kernel_rfl) (by simp [cpuCells, Value.oneCell'])

theorem storeIC {w : World} {B : Nat} {c : CpuN} {cs : Array Value} (h : BoxN w B 28 cs) (hz : cs.size = 11) : ∃ w', (Instr.storeAt 28 (.pointer (some ⟨B, 0, none⟩)) (cpuV c)).run Try.prog w = .ok () w' ∧ BoxN w' B 28 (cpuCells c) ∧ Span B (B + 1) w w' :=
  store_whole (vs := cpuCells c) h hz (by kernel_rfl) (by simp [cpuCells, Value.oneCell'])

end Go.Proofs.Ytckfdbjjjgfbfaa

namespace Go.Proofs.Ytckfdbjjjgfbfaa
set_option linter.unusedVariables false
set_option linter.unusedSimpArgs false

theorem nr {p q : Prop} (h : p ∨ q) (n : ¬ p := by decide) : q := h.resolve_left n

end Go.Proofs.Ytckfdbjjjgfbfaa
