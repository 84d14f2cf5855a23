/-
  Loads, allocs and stores of a processor's and a memory's box, as regions want them.
-/
import Derived.Test.YtblchdmemhhcbaaGreatQXStepAluNum
import Derived.Test.YtblchdmemhhcbaaGreatQXStepRegStep
import Derived.Test.YtblchdmemhhcbaaGreatQXStepCycRow
import Derived.Laws.Tables
namespace Go.Proofs.YtblchdmemhhcbaaGreat
set_option linter.unusedVariables false
set_option linter.unusedSimpArgs false
open Go.RowKit

set_option maxRecDepth 100000 in
theorem toFlags_cpu (n v d i z c : Bool) (w : World) :
    Calls Tryz.prog 56 #[.agg #[.bool n, .bool v, .bool d, .bool i, .bool z, .bool c]] w fun e w' => e = .returned (.agg #[.bool n, .bool v, .bool d, .bool i, .bool z, .bool c]) ∧ Below w.heap.size w w' := by
  go_enter Tryz.func56, Tryz.ntmps56
  go_wp2
  exact bodyPost_ret (v := .agg #[.bool n, .bool v, .bool d, .bool i, .bool z, .bool c]) (by simp [results, Tryz.results56, go_sem]) rfl ⟨rfl, (((Below.refl _ _).alloc (Nat.le_refl _) _).alloc (by simp) _).alloc (by simp; omega) _⟩

set_option maxRecDepth 100000 in
theorem toCpu_any (c : CpuN) (w : World) :
    Calls Tryz.prog 23 #[cpuV c] w fun e w' => e = .returned (cpuV c) ∧ Below w.heap.size w w' := by
  obtain ⟨cA, cX, cY, cS, cP, cN, cV, cD, cI, cZ, cC⟩ := c
  go_enter Tryz.func23, Tryz.ntmps23
  go_wp2_with fail
  refine (toFlags_cpu _ _ _ _ _ _ _).mono ?_
  rintro e w1 ⟨rfl, d1⟩
  have p3 := (BoxN.new ((w.alloc (.cells (cpuCells ⟨cA, cX, cY, cS, cP, cN, cV, cD, cI, cZ, cC⟩) 50)).alloc (.cells #[.int .u8 0, .int .u8 0, .int .u8 0, .int .u8 0, .int .u16 0, .bool false, .bool false, .bool false, .bool false, .bool false, .bool false] 28)) 28 #[.int .u8 (cA : Int), .int .u8 (cX : Int), .int .u8 (cY : Int), .int .u8 (cS : Int), .int .u16 (cP : Int), .bool false, .bool false, .bool false, .bool false, .bool false, .bool false]).below d1
  have p2 := ((BoxN.new (w.alloc (.cells (cpuCells ⟨cA, cX, cY, cS, cP, cN, cV, cD, cI, cZ, cC⟩) 50)) 28 #[.int .u8 0, .int .u8 0, .int .u8 0, .int .u8 0, .int .u16 0, .bool false, .bool false, .bool false, .bool false, .bool false, .bool false]).below ((Below.refl _ _).alloc (Nat.le_refl _) (.cells #[.int .u8 (cA : Int), .int .u8 (cX : Int), .int .u8 (cY : Int), .int .u8 (cS : Int), .int .u16 (cP : Int), .bool false, .bool false, .bool false, .bool false, .bool false, .bool false] 28))).below d1
  rw [World.size_alloc, World.size_alloc] at p3
  rw [World.size_alloc] at p2
  have b1 := bstep ((((Below.refl _ w).alloc (Nat.le_refl _) _).alloc (by simp) _).alloc (by simp; omega) _) d1
  clear d1
  have q3_0 := p3.cell 0 _ rfl
  have q2_0 := p2.cell 0 _ rfl
  have q3_1 := p3.cell 1 _ rfl
  have q2_1 := p2.cell 1 _ rfl
  have q3_2 := p3.cell 2 _ rfl
  have q2_2 := p2.cell 2 _ rfl
  have q3_3 := p3.cell 3 _ rfl
  have q2_3 := p2.cell 3 _ rfl
  have q3_4 := p3.cell 4 _ rfl
  have q2_4 := p2.cell 4 _ rfl
  have q3_5 := p3.cell 5 _ rfl
  have q2_5 := p2.cell 5 _ rfl
  have q3_6 := p3.cell 6 _ rfl
  have q2_6 := p2.cell 6 _ rfl
  have q3_7 := p3.cell 7 _ rfl
  have q2_7 := p2.cell 7 _ rfl
  have q3_8 := p3.cell 8 _ rfl
  have q2_8 := p2.cell 8 _ rfl
  have q3_9 := p3.cell 9 _ rfl
  have q2_9 := p2.cell 9 _ rfl
  have q3_10 := p3.cell 10 _ rfl
  have q2_10 := p2.cell 10 _ rfl
  have f3 := fun k => p3.frozen k
  have f2 := fun k => p2.frozen k
  go_wp2
  refine bodyPost_ret (v := cpuV ⟨cA, cX, cY, cS, cP, cN, cV, cD, cI, cZ, cC⟩) (by simp [results, Tryz.results23, go_sem, q2_0, q2_1, q2_2, q2_3, q2_4, q2_5, q2_6, q2_7, q2_8, q2_9, q2_10]) rfl ⟨rfl, ?_⟩
  repeat (any_goals (first | (with_reducible exact b1) | (with_reducible refine Below.setCell ?_ ?_ _)))
  all_goals (first | (simp; done) | (simp; omega))

set_option maxRecDepth 100000 in
theorem eqFlags_any (n v d i z c : Bool) (w : World) :
    Calls Tryz.prog 58 #[.agg #[.bool n, .bool v, .bool d, .bool i, .bool z, .bool c], .agg #[.bool n, .bool v, .bool d, .bool i, .bool z, .bool c]] w fun e w' => e = .returned (.bool true) ∧ Below w.heap.size w w' := by
  go_enter Tryz.func58, Tryz.ntmps58
  go_wp2
  go_ret
  exact ⟨rfl, ((Below.refl _ _).alloc (Nat.le_refl _) _).alloc (by simp) _⟩

set_option maxRecDepth 100000 in
theorem eqCpu_any (c : CpuN) (w : World) :
    Calls Tryz.prog 25 #[cpuV c, cpuV c] w fun e w' => e = .returned (.bool true) ∧ Below w.heap.size w w' := by
  obtain ⟨cA, cX, cY, cS, cP, cN, cV, cD, cI, cZ, cC⟩ := c
  have b0 : Below w.heap.size w ((w.alloc (.cells (cpuCells ⟨cA, cX, cY, cS, cP, cN, cV, cD, cI, cZ, cC⟩) 28)).alloc (.cells (cpuCells ⟨cA, cX, cY, cS, cP, cN, cV, cD, cI, cZ, cC⟩) 28)) := ((Below.refl _ _).alloc (Nat.le_refl _) _).alloc (by simp) _
  go_enter Tryz.func25, Tryz.ntmps25
  go_wp2_with fail
  refine (eqFlags_any _ _ _ _ _ _ _).mono ?_
  rintro e w1 ⟨rfl, d1⟩
  have b1 := bstep b0 d1
  go_wp2
  go_ret
  exact ⟨rfl, b1⟩

end Go.Proofs.YtblchdmemhhcbaaGreat

namespace Go.Proofs.YtblchdmemhhcbaaGreat
set_option linter.unusedVariables false
set_option linter.unusedSimpArgs false
open Go.RowKit

/-- A row of cycles of its own, in the blocks from lo up to hi. -/
def SegC (w : World) (lo hi : Nat) (v : Value) (L : List CycN) : Prop := OwnC w lo v L ∧ ∀ k, v.ownBlock = some k → k < hi

theorem SegC.below {w w' : World} {lo hi : Nat} {v : Value} {L : List CycN} (h : SegC w lo hi v L) (hb : Below w.heap.size w w') : SegC w' lo hi v L := ⟨ownC_below h.1 hb, h.2⟩

theorem SegC.drew {w : World} {lo hi : Nat} {v : Value} {L : List CycN} (h : SegC w lo hi v L) : SegC w.drew lo hi v L := h

theorem SegC.span {w w' : World} {lo hi lo' hi' : Nat} {v : Value} {L : List CycN} (h : SegC w lo hi v L) (hs : Span lo' hi' w w') (hd : hi ≤ lo' ∨ hi' ≤ lo) : SegC w' lo hi v L := by
  refine ⟨?_, h.2⟩
  obtain ⟨h1, h2⟩ := h.1
  refine ⟨h1, ?_⟩
  rcases h2 with hn | ⟨g, cap, cur, hv, hb, hg, hrest⟩
  · exact .inl hn
  · have hgl : g < hi := h.2 g (by rw [hv]; rfl)
    exact .inr ⟨g, cap, cur, hv, hb, (hs.block g (Array.getElem?_eq_some_iff.1 hg).1 (by omega)).trans hg, hrest⟩

theorem SegC.row {w : World} {lo hi : Nat} {a : Option Addr} {n cap : Nat} {L : List CycN} (h : SegC w lo hi (.slice a n cap) L) : RowC w a L := (OwnC.row h.1).2

theorem markC_seg (a : Option Addr) (cap k0 lo hi : Nat) (L : List CycN) (w : World) (hl : L.length ≤ 1048576) (hk : k0 ≤ 100000000) (h : SegC w lo hi (.slice a L.length cap) L) :
    Calls Tryz.prog 29 #[.slice a L.length cap, .int .i64 k0] w fun e w' => e = .returned (.int .i64 (k0 + 3 * L.length : Nat)) ∧ SegC w' lo hi (.slice a L.length cap) (marksC k0 L.length) ∧ Span lo hi w w' := by
  by_cases h0 : L.length = 0
  · obtain rfl : L = [] := List.length_eq_zero_iff.1 h0
    refine (markC_empty a cap k0 w hk).mono ?_
    rintro e w' ⟨rfl, rfl⟩
    exact ⟨rfl, h, Span.refl _ _ _⟩
  · have h1 := h.1
    rcases h1.2 with ⟨_, hn⟩ | ⟨g, cp, cur, hv, hb, hg, _⟩
    · omega
    · simp only [Value.slice.injEq] at hv
      obtain ⟨rfl, _, rfl⟩ := hv
      refine (markC_any g L.length cap k0 lo L w rfl hl hk h1).mono ?_
      rintro e w' ⟨rfl, ho, hgr⟩
      exact ⟨rfl, ⟨ho, h.2⟩, Span.of_grown hgr hb (h.2 g rfl)⟩

theorem heldC_seg (a : Option Addr) (cap k0 n lo hi : Nat) (w : World) (hn : n ≤ 1048576) (hk : k0 ≤ 100000000) (h : SegC w lo hi (.slice a n cap) (marksC k0 n)) :
    Calls Tryz.prog 31 #[.slice a n cap, .int .i64 k0] w fun e w' => e = .returned (.int .i64 (k0 + 3 * n : Nat)) ∧ Below w.heap.size w w' := heldC_any a n cap k0 w hn hk h.row

/-- What such a call leaves. -/
def Steps3 (V : World) (r : CpuN × BusN) (e : Ending) (W : World) : Prop :=
  ∃ a cap a2 cap2 lo hi lo2 hi2, e = .returned (.tuple #[cpuV r.1, ramV (.slice a r.2.mem.length cap), .slice a2 r.2.log.length cap2]) ∧ SegB W lo hi (.slice a r.2.mem.length cap) r.2.mem ∧ SegC W lo2 hi2 (.slice a2 r.2.log.length cap2) r.2.log ∧
    (V.heap.size ≤ lo ∧ hi ≤ W.heap.size ∧ V.heap.size ≤ lo2 ∧ hi2 ≤ W.heap.size ∧ lo ≤ hi ∧ lo2 ≤ hi2 ∧ (hi ≤ lo2 ∨ hi2 ≤ lo)) ∧ Below V.heap.size V W

theorem Stepped.three {V W : World} {r : CpuN × BusN} {e : Ending} (h : Stepped V r e W) : Steps3 V r e W := by
  obtain ⟨v, u, rfl, ho, hc, hne, hb⟩ := h
  have hz := hb.size
  have B1 : ∃ a cap, v = .slice a r.2.mem.length cap ∧ ((∃ g, v.ownBlock = some g ∧ V.heap.size ≤ g ∧ g < W.heap.size) ∨ v.ownBlock = none) := by
    obtain ⟨h1, h2⟩ := ho.2
    rcases h2 with ⟨hn, h0⟩ | ⟨g, cp, cur, hv, hg, hh, _⟩
    · exact ⟨none, 0, by rw [hn]; rw [show r.2.mem.length = 0 by simpa using h0], .inr (by rw [hn]; rfl)⟩
    · exact ⟨_, _, hv, .inl ⟨g, by rw [hv]; rfl, hg, (Array.getElem?_eq_some_iff.1 hh).1⟩⟩
  have B2 : ∃ a cap, u = .slice a r.2.log.length cap ∧ ((∃ g, u.ownBlock = some g ∧ V.heap.size ≤ g ∧ g < W.heap.size) ∨ u.ownBlock = none) := by
    obtain ⟨h1, h2⟩ := hc
    rcases h2 with ⟨hn, h0⟩ | ⟨g, cp, cur, hv, hg, hh, _⟩
    · exact ⟨none, 0, by rw [hn]; rw [show r.2.log.length = 0 by simpa using h0], .inr (by rw [hn]; rfl)⟩
    · exact ⟨_, _, hv, .inl ⟨g, by rw [hv]; rfl, hg, (Array.getElem?_eq_some_iff.1 hh).1⟩⟩
  obtain ⟨a, cap, rfl, A1⟩ := B1
  obtain ⟨a2, cap2, rfl, A2⟩ := B2
  have own1 : ∀ n, (∀ k, (Value.slice a r.2.mem.length cap).ownBlock = some k → n ≤ k) → OwnB W n (.slice a r.2.mem.length cap) r.2.mem := fun n hn => ⟨ho.1, ownsRow_up ho.2 hn⟩
  have own2 : ∀ n, (∀ k, (Value.slice a2 r.2.log.length cap2).ownBlock = some k → n ≤ k) → OwnC W n (.slice a2 r.2.log.length cap2) r.2.log := fun n hn => ownsRow_up hc hn
  rcases A1 with ⟨g, e1, g1, g2⟩ | e1 <;> rcases A2 with ⟨g', e2, g3, g4⟩ | e2
  · refine ⟨a, cap, a2, cap2, g, g + 1, g', g' + 1, rfl, ⟨own1 g ?_, ?_⟩, ⟨own2 g' ?_, ?_⟩, ⟨g1, g2, g3, g4, by omega, by omega, ?_⟩, hb⟩
    · intro k ek; rw [e1] at ek; simp only [Option.some.injEq] at ek; omega
    · intro k ek; rw [e1] at ek; simp only [Option.some.injEq] at ek; omega
    · intro k ek; rw [e2] at ek; simp only [Option.some.injEq] at ek; omega
    · intro k ek; rw [e2] at ek; simp only [Option.some.injEq] at ek; omega
    · have : g ≠ g' := fun e => hne g e1 (by rw [e2, e])
      omega
  · refine ⟨a, cap, a2, cap2, g, g + 1, W.heap.size, W.heap.size, rfl, ⟨own1 g ?_, ?_⟩, ⟨own2 _ ?_, ?_⟩, ⟨g1, g2, hz, Nat.le_refl _, by omega, by omega, .inl (by omega)⟩, hb⟩
    · intro k ek; rw [e1] at ek; simp only [Option.some.injEq] at ek; omega
    · intro k ek; rw [e1] at ek; simp only [Option.some.injEq] at ek; omega
    · intro k ek; rw [e2] at ek; cases ek
    · intro k ek; rw [e2] at ek; cases ek
  · refine ⟨a, cap, a2, cap2, W.heap.size, W.heap.size, g', g' + 1, rfl, ⟨own1 _ ?_, ?_⟩, ⟨own2 g' ?_, ?_⟩, ⟨hz, Nat.le_refl _, g3, g4, by omega, by omega, .inr (by omega)⟩, hb⟩
    · intro k ek; rw [e1] at ek; cases ek
    · intro k ek; rw [e1] at ek; cases ek
    · intro k ek; rw [e2] at ek; simp only [Option.some.injEq] at ek; omega
    · intro k ek; rw [e2] at ek; simp only [Option.some.injEq] at ek; omega
  · refine ⟨a, cap, a2, cap2, W.heap.size, W.heap.size, W.heap.size, W.heap.size, rfl, ⟨own1 _ ?_, ?_⟩, ⟨own2 _ ?_, ?_⟩, ⟨hz, Nat.le_refl _, hz, Nat.le_refl _, by omega, by omega, .inl (by omega)⟩, hb⟩
    · intro k ek; rw [e1] at ek; cases ek
    · intro k ek; rw [e1] at ek; cases ek
    · intro k ek; rw [e2] at ek; cases ek
    · intro k ek; rw [e2] at ek; cases ek

/-- What the statement leaves that takes it: two boxes and the cycles. -/
def Took3 (V : World) (r : CpuN × BusN) (p q u : Value) (W : World) : Prop :=
  ∃ P Q a cap a2 cap2 lo hi lo2 hi2, p = .pointer (some ⟨P, 0, none⟩) ∧ q = .pointer (some ⟨Q, 0, none⟩) ∧ u = .slice a2 r.2.log.length cap2 ∧
    BoxN W P 28 (cpuCells r.1) ∧ BoxN W Q 30 #[.slice a r.2.mem.length cap] ∧ SegB W lo hi (.slice a r.2.mem.length cap) r.2.mem ∧ SegC W lo2 hi2 (.slice a2 r.2.log.length cap2) r.2.log ∧
    (V.heap.size ≤ P ∧ V.heap.size ≤ Q ∧ P ≠ Q ∧ V.heap.size ≤ lo ∧ hi ≤ W.heap.size ∧ V.heap.size ≤ lo2 ∧ hi2 ≤ W.heap.size ∧ lo ≤ hi ∧ lo2 ≤ hi2 ∧ (hi ≤ lo2 ∨ hi2 ≤ lo) ∧ (P < lo ∨ hi ≤ P) ∧ (P < lo2 ∨ hi2 ≤ P) ∧ (Q < lo ∨ hi ≤ Q) ∧ (Q < lo2 ∨ hi2 ≤ Q)) ∧ Below V.heap.size V W

theorem alw (W : World) (o : Obj) : Below W.heap.size W (W.alloc o) := (Below.refl _ _).alloc (Nat.le_refl _) _

end Go.Proofs.YtblchdmemhhcbaaGreat

namespace Go.Proofs.YtblchdmemhhcbaaGreat
set_option linter.unusedVariables false
set_option linter.unusedSimpArgs false
open Go.RowKit

theorem op_call {P : Program} {ops : Array Oper} {Q : Exit → Act → World → Prop} {K : Act → World → Prop} {a : Act} {w : World} {i d : Nat} {f : FuncId} {xs : Array Operand} {tys : Array TypeId} {args : Array Value}
    (hop : IsOp ops i (some d) (.call ⟨.value (.func f), xs, tys⟩)) (hargs : xs.map a.eval = args) (hrun : (callFunc f args).run P w = .ok (.enter f args) w)
    (hC : Calls P f args w fun e w' => ∃ v, e = .returned v ∧ K (a.put (some d) v) w') : wpOp P ops Q i K a w := by
  refine wpOp_calls hop (fun o ho => ?_) hC
  unfold execOp
  rw [ho]
  dsimp only
  unfold resolve
  dsimp only
  rw [hargs]
  show Sem.run P (callFunc f ((#[] ++ args) ++ #[])) w = _
  rw [Array.append_empty, Array.empty_append]
  exact hrun

theorem below_step {n : Nat} {V W w : World} (h : Below n V W) (k : Below W.heap.size W w) (hn : n ≤ V.heap.size) : Below n V w := h.trans (k.mono (Nat.le_trans hn h.size))

theorem loadLC {w : World} {B : Nat} {c : CpuN} (h : BoxN w B 50 (cpuCells c)) : (Instr.loadAt 50 (.pointer (some ⟨B, 0, none⟩))).run Tryz.prog w = .ok (cpuV c) w := by
  have g0 := h.cell 0 _ rfl
  have g1 := h.cell 1 _ rfl
  have g2 := h.cell 2 _ rfl
  have g3 := h.cell 3 _ rfl
  have g4 := h.cell 4 _ rfl
  have g5 := h.cell 5 _ rfl
  have g6 := h.cell 6 _ rfl
  have g7 := h.cell 7 _ rfl
  have g8 := h.cell 8 _ rfl
  have g9 := h.cell 9 _ rfl
  have g10 := h.cell 10 _ rfl
  simp [go_sem, g0, g1, g2, g3, g4, g5, g6, g7, g8, g9, g10]

theorem loadLR {w : World} {B : Nat} {v : Value} (h : BoxN w B 51 #[v]) : (Instr.loadAt 51 (.pointer (some ⟨B, 0, none⟩))).run Tryz.prog w = .ok (ramV v) w := by
  have g0 := h.cell 0 _ rfl
  simp [go_sem, g0]

theorem loadIR {w : World} {B : Nat} {v : Value} (h : BoxN w B 30 #[v]) : (Instr.loadAt 30 (.pointer (some ⟨B, 0, none⟩))).run Tryz.prog w = .ok (ramV v) w := by
  have g0 := h.cell 0 _ rfl
  simp [go_sem, g0]

theorem allocIC (w : World) : ∃ cs : Array Value, (Instr.alloc 28 true (.tuple #[])).run Tryz.prog w = .ok (.pointer (some ⟨w.heap.size, 0, none⟩)) (w.alloc (.cells cs 28)) ∧ cs.size = 11 := by
  refine ⟨zeroCpu, ?_, rfl⟩
  simp [go_sem]

theorem allocIR (w : World) : ∃ cs : Array Value, (Instr.alloc 30 true (.tuple #[])).run Tryz.prog w = .ok (.pointer (some ⟨w.heap.size, 0, none⟩)) (w.alloc (.cells cs 30)) ∧ cs.size = 1 := by
  refine ⟨#[.slice none 0 0], ?_, rfl⟩
  simp [go_sem]

theorem store_whole {w : World} {B : Nat} {t : TypeId} {vs cs : Array Value} (h : BoxN w B t cs) (hz : cs.size = vs.size) (hi : (Tryz.prog.info? t).map (·.size) = some vs.size) (h1 : vs.all (·.oneCell') = true) :
    ∃ w', (Instr.storeAt t (.pointer (some ⟨B, 0, none⟩)) (.agg vs)).run Tryz.prog w = .ok () w' ∧ BoxN w' B t vs ∧ Span B (B + 1) w w' := by
  refine ⟨w.setRow B vs, ?_, setRow_heap w B cs vs t (0, 0) h, ⟨rfl, rfl, rfl, by simp [World.setRow], fun k _ hk => setRow_other w B k vs (by omega)⟩⟩
  simp only [Instr.storeAt, Instr.sureAddr, Sem.run_bind, Sem.run_pure, Result.andThen]
  exact run_storeVar_row _ _ t t cs vs h hi hz h1

theorem storeIR {w : World} {B : Nat} {a : Option Addr} {n cap : Nat} {cs : Array Value} (h : BoxN w B 30 cs) (hz : cs.size = 1) : ∃ w', (Instr.storeAt 30 (.pointer (some ⟨B, 0, none⟩)) (ramV (.slice a n cap))).run Tryz.prog w = .ok () w' ∧ BoxN w' B 30 #[.slice a n cap] ∧ Span B (B + 1) w w' :=
  store_whole (vs := #[.slice a n cap]) h hz (by kernel_rfl) (by simp [cpuCells, Value.oneCell'])

theorem storeIC {w : World} {B : Nat} {c : CpuN} {cs : Array Value} (h : BoxN w B 28 cs) (hz : cs.size = 11) : ∃ w', (Instr.storeAt 28 (.pointer (some ⟨B, 0, none⟩)) (cpuV c)).run Tryz.prog w = .ok () w' ∧ BoxN w' B 28 (cpuCells c) ∧ Span B (B + 1) w w' :=
  store_whole (vs := cpuCells c) h hz (by kernel_rfl) (by simp [cpuCells, Value.oneCell'])

end Go.Proofs.YtblchdmemhhcbaaGreat
