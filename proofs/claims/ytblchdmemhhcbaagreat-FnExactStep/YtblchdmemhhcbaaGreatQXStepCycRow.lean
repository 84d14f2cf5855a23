/-
  Rows of cycles: the exact laws' own helpers (eqCyc, eqCycS, markCycS, heldCycS).
-/
import Derived.Test.YtblchdmemhhcbaaGreatQXStepStepJ
import Derived.Test.YtblchdmemhhcbaaGreatQXStepRamSeg
import Derived.Deep.RegionHeld3
import Derived.Test.YtblchdmemhhcbaaGreatQXStepStepD
import Derived.StillTailTactics
namespace Go.Proofs.YtblchdmemhhcbaaGreat
set_option linter.unusedVariables false
set_option linter.unusedSimpArgs false
open Go.RowKit

/-- A step in plain numbers: the processor, and the bus with the memory behind it and its cycles. -/
def stepN (c : CpuN) (L : List Nat) : CpuN × BusN :=
  if ramN L.length = true then (if jamsN L c.PC = true then (c, ⟨L, []⟩) else opN ⟨L, []⟩ c) else (cpu0, ⟨[], []⟩)

/-- What a step, or an interrupt, answers. -/
def Stepped (w : World) (r : CpuN × BusN) (e : Ending) (w' : World) : Prop :=
  ∃ v u, e = .returned (.tuple #[cpuV r.1, ramV v, u]) ∧ OwnB w' w.heap.size v r.2.mem ∧ OwnC w' w.heap.size u r.2.log ∧ (∀ k, v.ownBlock = some k → u.ownBlock ≠ some k) ∧ Below w.heap.size w w'

theorem ownsRow_up {w : World} {base n len k : Nat} {t : TypeId} {v : Value} {L : List Value} (h : w.ownsRow base t k v len L) (hn : ∀ g, v.ownBlock = some g → n ≤ g) : w.ownsRow n t k v len L := by
  obtain ⟨h1, h2⟩ := h
  refine ⟨h1, ?_⟩
  rcases h2 with h2 | ⟨g, cap, cur, rfl, hb, rest⟩
  · exact .inl h2
  · exact .inr ⟨g, cap, cur, rfl, hn g rfl, rest⟩

abbrev newF (w : World) : Nat → Prop := fun i => w.heap.size ≤ i

/-- The bus's rows, told of the answer. -/
theorem Sit.rows {w W : World} {k B : Nat} {b : BusN} (s : Sit (newF w) w k B W b) : ∃ g cap v, W.cell? ⟨B, 0, none⟩ = some (.slice (some ⟨g, 0, none⟩) b.mem.length cap) ∧ W.cell? ⟨B, 1, none⟩ = some v ∧ B < W.heap.size ∧ w.heap.size + k ≤ B ∧
    OwnB W w.heap.size (.slice (some ⟨g, 0, none⟩) b.mem.length cap) b.mem ∧ OwnC W w.heap.size v b.log ∧ (∀ j, v.ownBlock = some j → w.heap.size + k ≤ j ∧ j ≠ g) ∧ w.heap.size + k ≤ g := by
  obtain ⟨g, cap, v, hb, ho, hc, fB, fg, hne, fv⟩ := s.bus
  refine ⟨g, cap, v, hb.cell 0 _ rfl, hb.cell 1 _ rfl, hb.lt, ?_, ⟨ho.1, ownsRow_up ho.2 (fun j ej => ?_)⟩, ownsRow_up hc (fun j ej => ?_), fun j ej => ⟨?_, (fv j ej).2.2⟩, ?_⟩
  · have h1 : w.heap.size ≤ B := fB.1
    rcases fB.2 with h | h <;> omega
  · simp only [Value.ownBlock, Option.some.injEq] at ej
    subst ej
    exact fg.1
  · exact (fv j ej).1.1
  · have h1 : w.heap.size ≤ j := (fv j ej).1.1
    rcases (fv j ej).1.2 with h | h <;> omega
  · have h1 : w.heap.size ≤ g := fg.1
    rcases fg.2 with h | h <;> omega

theorem Span.inn {W W1 : World} {lo hi B k : Nat} (h : Span lo hi W W1) (v : Value) (h1 : lo ≤ B) (h2 : B < hi) : Span lo hi W (W1.setCell ⟨B, k, none⟩ v) :=
  h.trans ((Span.set W1 B k v).wide h1 (by omega))

theorem Span.refl (lo hi : Nat) (W : World) : Span lo hi W W := Span.of_below _ _ (Below.refl _ _)

theorem Span.more {W W1 : World} {lo hi : Nat} (h : Span lo hi W W1) (o : Obj) : Span lo hi W (W1.alloc o) := h.trans (Span.of_below _ _ ((Below.refl _ _).alloc (Nat.le_refl _) _))

theorem Span.drew {W W1 : World} {lo hi : Nat} (h : Span lo hi W W1) : Span lo hi W W1.drew := h.trans (Span.of_below _ _ (Below.refl _ _).drew)

theorem Turn.new {w W : World} (h : Turn (newF w) w W) : Below w.heap.size w W := h.below (fun i hi hf => by have : w.heap.size ≤ i := hf; omega) (Nat.le_refl _)

theorem Stepped.of {w W W' : World} {k B : Nat} {b : BusN} {c : CpuN} {g cap : Nat} {v : Value} (s : Sit (newF w) w k B W b)
    (ho : OwnB W w.heap.size (.slice (some ⟨g, 0, none⟩) b.mem.length cap) b.mem) (hc : OwnC W w.heap.size v b.log) (hv : ∀ j, v.ownBlock = some j → w.heap.size + k ≤ j ∧ j ≠ g) (hg : w.heap.size + k ≤ g)
    (hs : Span w.heap.size (w.heap.size + k) W W') : Stepped w (c, b) (.returned (.tuple #[cpuV c, ramV (.slice (some ⟨g, 0, none⟩) b.mem.length cap), v])) W' := by
  have kept : ∀ j, j < W.heap.size → w.heap.size + k ≤ j → W'.heap[j]? = W.heap[j]? := fun j hj hk => hs.block j hj (.inr hk)
  refine ⟨_, _, rfl, ⟨ho.1, ?_⟩, ?_, fun j ej => ?_, s.turn.new.trans (hs.below (Nat.le_refl _) (by have := s.size; omega))⟩
  · obtain ⟨h1, h2⟩ := ho.2
    refine ⟨h1, ?_⟩
    rcases h2 with h2 | ⟨g', cap', cur, e, hb, hh, rest⟩
    · exact .inl h2
    · simp only [Value.slice.injEq, Option.some.injEq, Addr.mk.injEq] at e
      obtain ⟨⟨rfl, _⟩, _, rfl⟩ := e
      exact .inr ⟨g, cap, cur, rfl, hb, (kept g (Array.getElem?_eq_some_iff.1 hh).1 hg).trans hh, rest⟩
  · obtain ⟨h1, h2⟩ := hc
    refine ⟨h1, ?_⟩
    rcases h2 with h2 | ⟨g', cap', cur, rfl, hb, hh, rest⟩
    · exact .inl h2
    · exact .inr ⟨g', cap', cur, rfl, hb, (kept g' (Array.getElem?_eq_some_iff.1 hh).1 (hv g' rfl).1).trans hh, rest⟩
  · simp only [Value.ownBlock, Option.some.injEq] at ej
    subst ej
    intro e
    exact (hv _ e).2 rfl

theorem ram_new (w : World) {base : Nat} (hb : base ≤ w.heap.size) : OwnC (w.alloc (.cells #[] 39)) base (.slice (some ⟨w.heap.size, 0, none⟩) 0 0) [] := by
  refine ⟨rfl, .inr ⟨w.heap.size, 0, #[], rfl, hb, World.alloc_heap_new _ _, by simp, by unfold maxLen; omega, rfl, rfl⟩⟩

set_option maxRecDepth 100000 in
set_option maxHeartbeats 1000000 in
theorem step_no (c : CpuN) (a : Option Addr) (cap : Nat) (L : List Nat) (h : ramN L.length = false) (w : World) :
    Calls Tryz.prog 11 #[cpuV c, ramV (.slice a L.length cap)] w (Stepped w (cpu0, ⟨[], []⟩)) := by
  have HO := fun w => specOk_any a L.length cap w
  rw [h] at HO
  clear h
  go_enter Tryz.func11, Tryz.ntmps11
  go_wp2_with fail
  refine (HO _).mono ?_
  rintro e w1 ⟨rfl, d1⟩
  obtain ⟨q0, r0, y0, x0, b0, z0⟩ := four_call d1
  obtain ⟨h0, h1, h2, h3, h4, h5, h6, h7, h8, h9, h10, f1⟩ := eleven y0
  have x0c := x0.cell 0 _ rfl
  have fx := fun k => x0.frozen k
  have n0 := y0.lt
  have n1 := x0.lt
  have B0 := Lib.hid b0
  clear d1 q0 r0 y0 x0 b0 HO
  go_wp2
  refine bodyPost_ret (v := .tuple #[cpuV cpu0, ramV (.slice none 0 0), .slice (some ⟨w1.heap.size, 0, none⟩) 0 0]) (by simp [results, Tryz.results11, go_sem, h0, h1, h2, h3, h4, h5, h6, h7, h8, h9, h10, x0c, cpu0, n0, n1]) rfl ⟨_, _, rfl, ownNil _ _, ?_, fun k ek => by simp [Value.ownBlock] at ek, ?_⟩
  · have := ram_new (((set11 w1 (w.heap.size + 1 + 1) (.int .u8 0) (.int .u8 0) (.int .u8 0) (.int .u8 0) (.int .u16 0) (.bool false) (.bool false) (.bool false) (.bool false) (.bool false) (.bool false)).setCell ⟨w.heap.size + 1 + 1 + 1, 0, none⟩ (.slice none 0 0))) (base := w.heap.size) (by simp; omega)
    simpa using this
  · have hW := B0.out
    repeat (any_goals (first | (with_reducible exact hW) | (with_reducible refine Below.drew ?_) | (with_reducible refine Below.setCell ?_ ?_ _) | (with_reducible refine Below.alloc ?_ ?_ _)))
    all_goals (first | (with_reducible exact Nat.le_refl _) | (simp; done) | (simp; omega))

theorem Sit.start {w w4 : World} {g4 c4 base : Nat} {L : List Nat} (hb : Below w.heap.size w w4) (hz : w.heap.size + 4 ≤ w4.heap.size) (ho : OwnB w4 base (.slice (some ⟨g4, 0, none⟩) L.length c4) L) (hg : w.heap.size + 4 ≤ g4) :
    Sit (newF w) w 4 w4.heap.size (w4.alloc (.cells #[.slice (some ⟨g4, 0, none⟩) L.length c4, .slice none 0 0] 78)) ⟨L, []⟩ := by
  have hl := ((World.ownsRow.lt ho.2) g4 rfl).2
  refine ⟨⟨g4, c4, .slice none 0 0, BoxN.new _ _ _, ?_, World.ownsRow_nil _ _ _ _, ⟨?_, .inr hz⟩, ⟨?_, .inr hg⟩, by omega, fun k ek => by simp [Value.ownBlock] at ek⟩, Turn.of_below (hb.alloc (by omega) _), by rw [World.size_alloc]; omega, fun i hi => hi⟩
  · exact (OwnB.base ho (Nat.zero_le _)).below ((Below.refl _ _).alloc (Nat.le_refl _) _)
  · show w.heap.size ≤ w4.heap.size
    omega
  · show w.heap.size ≤ g4
    omega

theorem get_peek {L : List Nat} {pc : Nat} (h : ramN L.length = true) (hp : pc < 65536) : (⟨L, []⟩ : BusN).get pc = peekL L pc := by
  unfold BusN.get BusN.spot peekL
  rw [if_pos h]
  dsimp only
  rw [Nat.mod_eq_of_lt hp]

theorem ram_at {W : World} {n base : Nat} (hW : W.heap.size = n) (hb : base ≤ n) : OwnC (W.alloc (.cells #[] 39)).drew base (.slice (some ⟨n, 0, none⟩) 0 0) [] := by
  subst hW
  exact ram_new W hb

theorem OwnB.spanned {W W' : World} {v : Value} {L : List Nat} {base lo hi : Nat} (h : OwnB W base v L) (hs : Span lo hi W W') (hd : ∀ k, v.ownBlock = some k → hi ≤ k) : OwnB W' base v L := by
  obtain ⟨h0, h1, h2⟩ := h
  refine ⟨h0, h1, ?_⟩
  rcases h2 with h2 | ⟨g', cap', cur, rfl, hb, hh, rest⟩
  · exact .inl h2
  · exact .inr ⟨g', cap', cur, rfl, hb, (hs.block g' (Array.getElem?_eq_some_iff.1 hh).1 (.inr (hd g' rfl))).trans hh, rest⟩

theorem impL_PC (c : CpuN) (l : List UInt8) (m : Int) : (impL c l m).PC = c.PC := by
  simp only [impL, flagL, regL, CpuN.chg, CpuN.nz, apply_ite CpuN.PC, ite_self]

theorem imp_at (i : Nat) (m : Int) (h : (m = 0 ∧ i ∈ [17, 18, 19, 20, 21, 22, 37, 38, 39, 40, 49, 50, 51, 52, 53, 54, 55, 56]) ∨ (m = 1 ∧ i ∈ [9, 10, 11, 12])) (c : CpuN) (hc : c.ok) {u : CpuN} (hu : impL c (opTx i).toList m = u) (w : World) :
    Calls Tryz.prog 44 #[cpuV c, .string (opTx i), .int .i64 m] w fun e w' => e = .returned (cpuV u) ∧ Below w.heap.size w w' := by
  subst hu
  rcases h with ⟨rfl, hi⟩ | ⟨rfl, hi⟩
  · exact imp_any i hi c hc w
  · exact acc_any i hi c hc w

end Go.Proofs.YtblchdmemhhcbaaGreat

namespace Go.Proofs.YtblchdmemhhcbaaGreat
set_option linter.unusedVariables false
set_option linter.unusedSimpArgs false
open Go.RowKit

/-- As many bytes, and not more than n cycles more. -/
def Grew (b b' : BusN) (n : Nat) : Prop := b'.mem.length = b.mem.length ∧ b'.log.length ≤ b.log.length + n

theorem Grew.same (b : BusN) (n : Nat) : Grew b b n := ⟨rfl, by omega⟩
theorem Grew.rd {b b' : BusN} {n a : Nat} (h : Grew b b' n) : Grew b (b'.rd a) (n + 1) := ⟨h.1, by have := h.2; simp [BusN.rd]; omega⟩
theorem Grew.put {b b' : BusN} {n a d : Nat} (h : Grew b b' n) : Grew b (b'.put a d) (n + 1) := ⟨by have := h.1; simp [BusN.put]; exact this, by have := h.2; simp [BusN.put]; omega⟩
theorem Grew.mono {b b' : BusN} {n m : Nat} (h : Grew b b' n) (hm : n ≤ m) : Grew b b' m := ⟨h.1, by have := h.2; omega⟩

theorem placeN_grew {b0 b : BusN} {n : Nat} (h : Grew b0 b n) (c : CpuN) (m k : Int) : Grew b0 (placeN b c m k).2 (n + 4) := by
  unfold placeN baseN
  dsimp only
  repeat' split
  all_goals first
    | with_reducible exact h.rd.rd.rd.rd
    | with_reducible exact h.rd.rd.rd.mono (by omega)
    | with_reducible exact h.rd.rd.mono (by omega)
    | with_reducible exact h.rd.mono (by omega)

theorem pushN_grew {b0 b : BusN} {n : Nat} (h : Grew b0 b n) (c : CpuN) (pc : Nat) (brk : Bool) (v : Nat) : Grew b0 (pushN b c pc brk v).2 (n + 5) := h.put.put.put.rd.rd

theorem branchN_grew {b0 b : BusN} {n : Nat} (h : Grew b0 b n) (c : CpuN) (l : List UInt8) : Grew b0 (branchN b c l).2 (n + 5) := by
  unfold branchN
  dsimp only
  split
  · dsimp only
    split
    · exact h.rd.rd.mono (by omega)
    · exact h.rd.rd.rd.mono (by omega)
  · exact h.rd.mono (by omega)

theorem holdN_grew {b0 b : BusN} {n : Nat} (h : Grew b0 b n) (c : CpuN) (l : List UInt8) : Grew b0 (holdN b c l).2 (n + 4) := by
  unfold holdN
  dsimp only
  repeat' split
  all_goals first
    | with_reducible exact h.rd.rd.mono (by omega)
    | with_reducible exact h.put.mono (by omega)

theorem goN_grew {b0 b : BusN} {n : Nat} (h : Grew b0 b n) (c : CpuN) (l : List UInt8) (m : Int) : Grew b0 (goN b c l m).2 (n + 6) := by
  unfold goN
  dsimp only
  repeat' split
  all_goals first
    | with_reducible exact (pushN_grew h.rd _ _ _ _).mono (by omega)
    | with_reducible exact (holdN_grew h.rd _ _).mono (by omega)
    | with_reducible exact h.rd.rd.rd.rd.rd.mono (by omega)
    | with_reducible exact h.rd.rd.put.put.rd.mono (by omega)
    | with_reducible exact h.rd.rd.rd.rd.mono (by omega)
    | with_reducible exact h.rd.rd.mono (by omega)

theorem dataN_grew {b0 b : BusN} {n : Nat} (h : Grew b0 b n) (c : CpuN) (code : Nat) : Grew b0 (dataN b c code).2 (n + 7) := by
  unfold dataN
  dsimp only
  repeat' split
  all_goals first
    | with_reducible exact h.rd.mono (by omega)
    | with_reducible exact (placeN_grew h _ _ _).rd.mono (by omega)
    | with_reducible exact (placeN_grew h _ _ _).put.mono (by omega)
    | with_reducible exact (placeN_grew h _ _ _).rd.put.put.mono (by omega)

theorem opN_grew (b : BusN) (c : CpuN) : Grew b (opN b c).2 8 := by
  have h := (Grew.same b 0).rd (a := c.PC)
  unfold opN
  dsimp only
  repeat' split
  all_goals first
    | with_reducible exact h.rd.mono (by omega)
    | with_reducible exact (branchN_grew h _ _).mono (by omega)
    | with_reducible exact (dataN_grew h _ _).mono (by omega)
    | with_reducible exact (goN_grew h _ _ _).mono (by omega)

theorem stepN_len (c : CpuN) (L : List Nat) : (stepN c L).2.mem.length ≤ L.length ∧ (stepN c L).2.log.length ≤ 8 := by
  unfold stepN
  split
  · split
    · exact ⟨Nat.le_refl _, by simp⟩
    · have h := opN_grew ⟨L, []⟩ c
      exact ⟨by have := h.1; simpa using Nat.le_of_eq this, by simpa using h.2⟩
  · exact ⟨by simp, by simp⟩

end Go.Proofs.YtblchdmemhhcbaaGreat

namespace Go.Proofs.YtblchdmemhhcbaaGreat
set_option linter.unusedVariables false
set_option linter.unusedSimpArgs false
open Go.RowKit

/-- Two boxes of one cell, as they stood behind a call. -/
theorem two_keep {w w1 : World} {B C : Nat} {u v : Value} (hb : Below w.heap.size w w1) (h : w.cell? ⟨B, 0, none⟩ = some u ∧ w.cell? ⟨C, 0, none⟩ = some v ∧ B < w.heap.size ∧ C < w.heap.size) : w1.cell? ⟨B, 0, none⟩ = some u ∧ w1.cell? ⟨C, 0, none⟩ = some v ∧ B < w1.heap.size ∧ C < w1.heap.size :=
  ⟨cellKept hb h.1 h.2.2.1, cellKept hb h.2.1 h.2.2.2, Nat.lt_of_lt_of_le h.2.2.1 hb.size, Nat.lt_of_lt_of_le h.2.2.2 hb.size⟩

end Go.Proofs.YtblchdmemhhcbaaGreat

namespace Go.Proofs.YtblchdmemhhcbaaGreat
set_option linter.unusedVariables false
set_option linter.unusedSimpArgs false
open Go.RowKit

def ImplStep : Prop := ∀ (c : CpuN) (a : Option Addr) (cap : Nat) (L : List Nat) (w : World), c.ok → L.length ≤ 1048576 → L.length ≤ cap → RowB w a L → Calls Tryz.prog 10 #[cpuV c, ramV (.slice a L.length cap)] w (Stepped w (stepN c L))

end Go.Proofs.YtblchdmemhhcbaaGreat

namespace Go.Proofs.YtblchdmemhhcbaaGreat
set_option linter.unusedVariables false
set_option linter.unusedSimpArgs false
open Go.RowKit

/-- A row of cycles that can be read. -/
def RowC (w : World) (a : Option Addr) (L : List CycN) : Prop :=
  0 < L.length → ∃ g o, a = some ⟨g, o, none⟩ ∧ g < w.heap.size ∧ ∀ i (h : i < L.length), w.cell? ⟨g, o + i * 3, none⟩ = some (.int .u16 (L[i].addr : Int)) ∧ w.cell? ⟨g, o + i * 3 + 1, none⟩ = some (.int .u8 (L[i].data : Int)) ∧ w.cell? ⟨g, o + i * 3 + 2, none⟩ = some (.bool L[i].wr)

theorem cyc_at (L : List CycN) : ∀ (i : Nat) (h : i < L.length), (L.flatMap cycCells)[i * 3]? = some (.int .u16 (L[i].addr : Int)) ∧ (L.flatMap cycCells)[i * 3 + 1]? = some (.int .u8 (L[i].data : Int)) ∧ (L.flatMap cycCells)[i * 3 + 2]? = some (.bool L[i].wr) := by
  induction L with
  | nil => intro i h; simp at h
  | cons c r ih =>
    intro i h
    cases i with
    | zero => simp [cycCells]
    | succ i =>
      have e1 : (i + 1) * 3 = i * 3 + 3 := by omega
      have e2 : (i + 1) * 3 + 1 = i * 3 + 1 + 3 := by omega
      have e3 : (i + 1) * 3 + 2 = i * 3 + 2 + 3 := by omega
      obtain ⟨h1, h2, h3⟩ := ih i (by simpa using h)
      rw [List.flatMap_cons, e2, e3, e1]
      refine ⟨?_, ?_, ?_⟩
      all_goals
        rw [List.getElem?_append_right (by simp [cycCells])]
        simp only [cycCells, List.length_cons, List.length_nil, Nat.zero_add, Nat.add_sub_cancel, List.getElem_cons_succ]
        assumption

theorem OwnC.row {w : World} {base : Nat} {a : Option Addr} {n cap : Nat} {L : List CycN} (h : OwnC w base (.slice a n cap) L) : n = L.length ∧ RowC w a L := by
  have h' := h
  obtain ⟨_, h2⟩ := h
  rcases h2 with ⟨h2, hn⟩ | ⟨g, cap', cur, e, hb, hh, hnc, _⟩
  · simp only [Value.slice.injEq] at h2
    refine ⟨by omega, fun h => by omega⟩
  · simp only [Value.slice.injEq] at e
    obtain ⟨rfl, rfl, rfl⟩ := e
    refine ⟨rfl, fun h0 => ⟨g, 0, rfl, (Array.getElem?_eq_some_iff.1 hh).1, fun i hi => ?_⟩⟩
    obtain ⟨c1, c2, c3⟩ := cyc_at L i hi
    simp only [Nat.zero_add]
    exact ⟨(World.ownsRow.cellAt h' (i * 3) (by omega)).trans c1, (World.ownsRow.cellAt h' (i * 3 + 1) (by omega)).trans c2, (World.ownsRow.cellAt h' (i * 3 + 2) (by omega)).trans c3⟩

theorem RowC.below {w w' : World} {a : Option Addr} {L : List CycN} (h : RowC w a L) (hb : Below w.heap.size w w') : RowC w' a L := fun h0 => by
  obtain ⟨g, o, rfl, hg, hc⟩ := h h0
  refine ⟨g, o, rfl, Nat.lt_of_lt_of_le hg hb.size, fun i hi => ?_⟩
  obtain ⟨h1, h2, h3⟩ := hc i hi
  exact ⟨cellKept hb h1 hg, cellKept hb h2 hg, cellKept hb h3 hg⟩

theorem eqCyc_true (x y : Int) (b : Bool) (w : World) :
    Calls Tryz.prog 60 #[.agg #[.int .u16 x, .int .u8 y, .bool b], .agg #[.int .u16 x, .int .u8 y, .bool b]] w fun e w' => e = .returned (.bool true) ∧ Below w.heap.size w w' := by
  go_enter Tryz.func60, Tryz.ntmps60
  go_wp2
  go_ret
  exact ⟨rfl, ((Below.refl _ _).alloc (Nat.le_refl _) _).alloc (by simp) _⟩

set_option maxRecDepth 100000 in
theorem eqCycS_true (a1 a2 : Option Addr) (c1 c2 : Nat) (L : List CycN) (w : World) (hl : L.length ≤ 1048576) (h1 : RowC w a1 L) (h2 : RowC w a2 L) :
    Calls Tryz.prog 27 #[.slice a1 L.length c1, .slice a2 L.length c2] w fun e w' => e = .returned (.bool true) ∧ Below w.heap.size w w' := by
  have H1 := Lib.hid h1
  have H2 := Lib.hid h2
  clear h1 h2
  go_enter Tryz.func27, Tryz.ntmps27
  go_wp2
  go_loopw [5] (fun i wr => ∃ k : Nat, k ≤ L.length ∧ i = .int .i64 k ∧ Below w.heap.size w wr) (fun i _ => L.length - (intOf i).toNat)
  case atStart => exact ⟨0, Nat.zero_le _, rfl, Below.refl _ _⟩
  case round =>
    obtain ⟨k, hk, rfl, hb⟩ := hrel
    by_cases hp : k < L.length
    · obtain ⟨g1, o1, rfl, _, e1⟩ := (H1.out.below hb) (by omega)
      obtain ⟨g2, o2, rfl, _, e2⟩ := (H2.out.below hb) (by omega)
      obtain ⟨f1, f2, f3⟩ := e1 k hp
      obtain ⟨f4, f5, f6⟩ := e2 k hp
      clear e1 e2
      obtain ⟨x, hx⟩ : ∃ x, L[k].addr = x := ⟨_, rfl⟩
      obtain ⟨y, hy⟩ : ∃ x, L[k].data = x := ⟨_, rfl⟩
      obtain ⟨b, hbb⟩ : ∃ x, L[k].wr = x := ⟨_, rfl⟩
      rw [hx] at f1 f4
      rw [hy] at f2 f5
      rw [hbb] at f3 f6
      clear hx hy hbb
      have ik : (0 : Int) ≤ (k : Int) ∧ (k : Int) < (L.length : Int) := by omega
      go_wp2_with fail
      go_still_tail 8, (by kernel_rfl)
      change wpList _ _ _ _ _ wr.drew
      go_wp2_with fail
      refine (eqCyc_true _ _ _ _).mono ?_
      rintro e w1 ⟨rfl, d1⟩
      have b1 := bstep hb.drew d1
      go_wp2
      go_roundw
      case rel => exact ⟨k + 1, by omega, by go_num, b1⟩
      case measure => simp [intOf]; omega
    · go_wp2
      go_ret
      exact ⟨rfl, hb⟩

/-- Marks, from k on. -/
def markC (k : Nat) : CycN := ⟨k % 65536, (k + 1) % 256, (k + 2) % 3 == 0⟩

def marksC : Nat → Nat → List CycN
  | _, 0 => []
  | k, n + 1 => markC k :: marksC (k + 3) n

theorem marksC_len : ∀ (n k : Nat), (marksC k n).length = n
  | 0, _ => rfl
  | n + 1, k => by simp [marksC, marksC_len n]

theorem marksC_at : ∀ (n k i : Nat) (h : i < (marksC k n).length), (marksC k n)[i] = markC (k + 3 * i)
  | 0, k, i, h => by simp [marksC] at h
  | n + 1, k, 0, h => by simp [marksC]
  | n + 1, k, i + 1, h => by
    simp only [marksC, List.getElem_cons_succ]
    rw [marksC_at n (k + 3) i]
    congr 1
    omega

theorem marksC_snoc : ∀ (n k : Nat), marksC k (n + 1) = marksC k n ++ [markC (k + 3 * n)]
  | 0, k => by simp [marksC]
  | n + 1, k => by
    rw [marksC, marksC_snoc n (k + 3), marksC, List.cons_append, show k + 3 + 3 * n = k + 3 * (n + 1) by omega]

set_option maxRecDepth 100000 in
theorem heldC_any (a : Option Addr) (n cap k0 : Nat) (w : World) (hn : n ≤ 1048576) (hk : k0 ≤ 100000000) (h : RowC w a (marksC k0 n)) :
    Calls Tryz.prog 31 #[.slice a n cap, .int .i64 k0] w fun e w' => e = .returned (.int .i64 (k0 + 3 * n : Nat)) ∧ Below w.heap.size w w' := by
  have H := Lib.hid h
  clear h
  go_enter Tryz.func31, Tryz.ntmps31
  go_wp2
  go_loop [1, 5] (fun kk i => ∃ (j : Nat), j ≤ n ∧ i = .int .i64 j ∧ kk = .int .i64 (k0 + 3 * j : Nat)) (fun _ i => n - (intOf i).toNat)
  case atStart => exact ⟨0, Nat.zero_le _, rfl, rfl⟩
  case round =>
    obtain ⟨j, hj, rfl, rfl⟩ := hrel
    by_cases hp : j < n
    · obtain ⟨g, o, rfl, _, hc⟩ := H.out (by rw [marksC_len]; omega)
      obtain ⟨f1, f2, f3⟩ := hc j (by rw [marksC_len]; exact hp)
      rw [marksC_at] at f1 f2 f3
      obtain ⟨K, hK⟩ : ∃ K, k0 + 3 * j = K := ⟨_, rfl⟩
      rw [hK] at f1 f2 f3 ⊢
      have hKb : K ≤ 200000000 := by omega
      have HK := Lib.hid hK
      clear hc hK
      unfold markC at f1 f2 f3
      dsimp only at f1 f2 f3
      have e1 : (((K % 65536 : Nat) : Int)) = IntKind.u16.wrap (K : Int) := by simp [IntKind.wrap, IntKind.bits, IntKind.signed]
      have e2 : ((((K + 1) % 256 : Nat) : Int)) = ((K : Int) + 1) % 256 := by omega
      have e3 : ((K + 2) % 3 == 0) = (((K : Int) + 1 + 1) % 3 == 0) := by
        rw [Bool.eq_iff_iff]
        simp only [beq_iff_eq]
        omega
      rw [e1] at f1
      rw [e2] at f2
      rw [e3] at f3
      clear e1 e2 e3
      go_wp2
      go_round
      case rel => exact ⟨j + 1, by omega, by go_num, by have := HK.out; go_num⟩
      case measure => simp [intOf]; omega
    · obtain rfl : j = n := by omega
      go_wp2
      go_ret
      exact ⟨rfl, Below.refl _ _⟩

theorem flat_len (A : List CycN) : (A.flatMap cycCells).length = A.length * 3 := by
  induction A with
  | nil => rfl
  | cons c r ih => rw [List.flatMap_cons, List.length_append, ih, List.length_cons]; simp [cycCells]; omega

theorem flat_set (A B : List CycN) (c c' : CycN) (n : Nat) (hn : n = A.length) : (((((A ++ c :: B).flatMap cycCells).set (n * 3) (.int .u16 (c'.addr : Int))).set (n * 3 + 1) (.int .u8 (c'.data : Int))).set (n * 3 + 2) (.bool c'.wr)) = (A ++ c' :: B).flatMap cycCells := by
  have hl := flat_len A
  rw [← hn] at hl
  rw [List.flatMap_append, List.flatMap_append, List.flatMap_cons, List.flatMap_cons]
  have st : ∀ (Y : List Value) (i : Nat) (x : Value), (A.flatMap cycCells ++ Y).set (n * 3 + i) x = A.flatMap cycCells ++ Y.set i x := fun Y i x => by
    rw [List.set_append, if_neg (by omega), hl, show n * 3 + i - n * 3 = i by omega]
  have st0 : ∀ (Y : List Value) (x : Value), (A.flatMap cycCells ++ Y).set (n * 3) x = A.flatMap cycCells ++ Y.set 0 x := fun Y x => st Y 0 x
  rw [st0, st, st]
  rfl

theorem markedC_step (L : List CycN) (k0 j : Nat) (h : j < L.length) : ∃ c B, marksC k0 j ++ L.drop j = marksC k0 j ++ c :: B ∧ marksC k0 (j + 1) ++ L.drop (j + 1) = marksC k0 j ++ markC (k0 + 3 * j) :: B := by
  refine ⟨L[j], L.drop (j + 1), ?_, ?_⟩
  · rw [List.drop_eq_getElem_cons h]
  · rw [marksC_snoc, List.append_assoc]; rfl

set_option maxRecDepth 100000 in
theorem markC_any (g n cap k0 : Nat) (base : Nat) (L : List CycN) (w : World) (hn : n = L.length) (hn2 : n ≤ 1048576) (hk : k0 ≤ 100000000) (h : OwnC w base (.slice (some ⟨g, 0, none⟩) n cap) L) :
    Calls Tryz.prog 29 #[.slice (some ⟨g, 0, none⟩) n cap, .int .i64 k0] w fun e w' => e = .returned (.int .i64 (k0 + 3 * n : Nat)) ∧ OwnC w' base (.slice (some ⟨g, 0, none⟩) n cap) (marksC k0 n) ∧ w.grownBy w' (some g) := by
  subst hn
  have H := Lib.hid h
  clear h
  go_enter Tryz.func29, Tryz.ntmps29
  go_wp2
  go_loopw [1, 5] (fun kk i wr => ∃ (j : Nat), j ≤ L.length ∧ i = .int .i64 j ∧ kk = .int .i64 (k0 + 3 * j : Nat) ∧ Hid (wr.ownsRow base 39 3 (.slice (some ⟨g, 0, none⟩) L.length cap) L.length ((marksC k0 j ++ L.drop j).flatMap cycCells) ∧ w.grownBy wr (some g))) (fun _ i _ => L.length - (intOf i).toNat)
  case atStart => exact ⟨0, Nat.zero_le _, rfl, rfl, Lib.hid ⟨by simpa [marksC, OwnC] using H.out, World.grownBy.refl _ _⟩⟩
  case round =>
    obtain ⟨j, hj, rfl, rfl, HO⟩ := hrel
    by_cases hp : j < L.length
    · obtain ⟨hO, hgr⟩ := HO.out
      obtain ⟨c, B, eA, eB⟩ := markedC_step L k0 j hp
      rw [eA] at hO
      have hlen : (marksC k0 j ++ c :: B).length = L.length := by rw [← eA, List.length_append, marksC_len, List.length_drop]; omega
      have hj2 : j < (marksC k0 j ++ c :: B).length := by omega
      have hcell := fun (i : Nat) (hi : i < L.length * 3) => World.ownsRow.cellAt hO i hi
      obtain ⟨k1, k2, k3⟩ := cyc_at (marksC k0 j ++ c :: B) j hj2
      have f1 := (hcell (j * 3) (by omega)).trans k1
      have f2 := (hcell (j * 3 + 1) (by omega)).trans k2
      have f3 := (hcell (j * 3 + 2) (by omega)).trans k3
      have z1 := World.ownsRow.frozenAt hO (j * 3)
      have z2 := World.ownsRow.frozenAt hO (j * 3 + 1)
      have z3 := World.ownsRow.frozenAt hO (j * 3 + 2)
      obtain ⟨K, hK⟩ : ∃ K, k0 + 3 * j = K := ⟨_, rfl⟩
      rw [hK] at eB ⊢
      have s1 := World.ownsRow.stored hO (j * 3) (.int .u16 ((markC K).addr : Int))
      have s2 := World.ownsRow.stored s1.1 (j * 3 + 1) (.int .u8 ((markC K).data : Int))
      have s3 := World.ownsRow.stored s2.1 (j * 3 + 2) (.bool (markC K).wr)
      rw [flat_set _ _ _ _ j (marksC_len j k0).symm, ← eB] at s3
      have HST := Lib.hid (And.intro s3.1 (grownB_trans (grownB_trans (grownB_trans hgr s1.2) s2.2) s3.2))
      have hKb : K ≤ 200000000 := by omega
      have HK := Lib.hid hK
      obtain ⟨u1, hu1⟩ : ∃ u, (marksC k0 j ++ c :: B)[j].addr = u := ⟨_, rfl⟩
      obtain ⟨u2, hu2⟩ : ∃ u, (marksC k0 j ++ c :: B)[j].data = u := ⟨_, rfl⟩
      obtain ⟨u3, hu3⟩ : ∃ u, (marksC k0 j ++ c :: B)[j].wr = u := ⟨_, rfl⟩
      rw [hu1] at f1
      rw [hu2] at f2
      rw [hu3] at f3
      clear hO hgr eA eB hlen hj2 hcell k1 k2 k3 s1 s2 s3 hK hu1 hu2 hu3 HO
      have ik : (0 : Int) ≤ (j : Int) ∧ (j : Int) < (L.length : Int) := by omega
      go_wp2
      go_roundw
      case rel =>
        refine ⟨j + 1, by omega, by go_num, by have := HK.out; go_num, Lib.hid ?_⟩
        have e1 : (((markC K).addr : Nat) : Int) = IntKind.u16.wrap (K : Int) := by unfold markC; simp [IntKind.wrap, IntKind.bits, IntKind.signed]
        have e2 : (((markC K).data : Nat) : Int) = ((K : Int) + 1) % 256 := by unfold markC; dsimp only; omega
        have e3 : (markC K).wr = (((K : Int) + 1 + 1) % 3 == 0) := by
          unfold markC
          rw [Bool.eq_iff_iff]
          simp only [beq_iff_eq]
          omega
        have hh := HST.out
        rw [e1, e2, e3] at hh
        exact hh
      case measure => simp [intOf]; omega
    · obtain rfl : j = L.length := by omega
      obtain ⟨hO, hgr⟩ := HO.out
      have hO2 : OwnC wr base (.slice (some ⟨g, 0, none⟩) L.length cap) (marksC k0 L.length) := by
        unfold OwnC
        rw [marksC_len]
        simpa using hO
      clear hO HO
      go_wp2
      go_ret
      exact ⟨rfl, hO2, hgr⟩

theorem markC_empty (a : Option Addr) (cap k0 : Nat) (w : World) (hk : k0 ≤ 100000000) :
    Calls Tryz.prog 29 #[.slice a 0 cap, .int .i64 k0] w fun e w' => e = .returned (.int .i64 (k0 : Nat)) ∧ w = w' := by
  go_enter Tryz.func29, Tryz.ntmps29
  go_wp2
  go_loopw [1, 5] (fun kk i wr => i = .int .i64 0 ∧ kk = .int .i64 k0 ∧ wr = w) (fun _ _ _ => 0)
  case atStart => exact ⟨rfl, rfl, rfl⟩
  case round =>
    obtain ⟨rfl, rfl, rfl⟩ := hrel
    go_wp2
    go_ret
    exact ⟨rfl, rfl⟩

end Go.Proofs.YtblchdmemhhcbaaGreat
