/-
  Contracts over the program: the model's Step: where the byte at PC is no operation.
-/
import Derived.Test.YtblchdmemhhcbaaGreatQStepStepK
import Derived.Test.YtblchdmemhhcbaaGreatQStepRamB
import Derived.Test.YtblchdmemhhcbaaGreatQStepSpan
import Derived.Deep.RegionHeld3
import Derived.Test.YtblchdmemhhcbaaGreatQStepStepD
import Derived.StillTailTactics
import Derived.Test.YtblchdmemhhcbaaGreatQStepAluNum
import Derived.Deep.RegionWith
namespace Go.Proofs.YtblchdmemhhcbaaGreat
set_option linter.unusedVariables false
set_option linter.unusedSimpArgs false
open Go.RowKit

/-- As many bytes, and not more than n cycles more. -/
def Grew (b b' : BusN) (n : Nat) : Prop := b'.mem.length = b.mem.length ∧ b'.log.length ≤ b.log.length + n

theorem Grew.same (b : BusN) (n : Nat) : Grew b b n := ⟨rfl, by omega⟩
theorem Grew.rd {b b' : BusN} {n a : Nat} (h : Grew b b' n) : Grew b (b'.rd a) (n + 1) := ⟨h.1, by have := h.2; simp [BusN.rd]; omega⟩
theorem Grew.put {b b' : BusN} {n a d : Nat} (h : Grew b b' n) : Grew b (b'.put a d) (n + 1) := ⟨by have := h.1; simp [BusN.put]; exact this, by have := h.2; simp [BusN.put]; omega⟩
theorem Grew.mono {b b' : BusN} {n m : Nat} (h : Grew b b' n) (hm : n ≤ m) : Grew b b' m := ⟨h.1, by have := h.2; omega⟩

theorem placeN_grew {b0 b : BusN} {n : Nat} (h : Grew b0 b n) (c : CpuN) (m k : Int) : Grew b0 (placeN b c m k).2 (n + 4) := by
  unfold placeN baseN
  dsimp only
  repeat' split
  all_goals first
    | with_reducible exact h.rd.rd.rd.rd
    | with_reducible exact h.rd.rd.rd.mono (by omega)
    | with_reducible exact h.rd.rd.mono (by omega)
    | with_reducible exact h.rd.mono (by omega)

theorem pushN_grew {b0 b : BusN} {n : Nat} (h : Grew b0 b n) (c : CpuN) (pc : Nat) (brk : Bool) (v : Nat) : Grew b0 (pushN b c pc brk v).2 (n + 5) := h.put.put.put.rd.rd

theorem branchN_grew {b0 b : BusN} {n : Nat} (h : Grew b0 b n) (c : CpuN) (l : List UInt8) : Grew b0 (branchN b c l).2 (n + 5) := by
  unfold branchN
  dsimp only
  split
  · dsimp only
    split
    · exact h.rd.rd.mono (by omega)
    · exact h.rd.rd.rd.mono (by omega)
  · exact h.rd.mono (by omega)

theorem holdN_grew {b0 b : BusN} {n : Nat} (h : Grew b0 b n) (c : CpuN) (l : List UInt8) : Grew b0 (holdN b c l).2 (n + 4) := by
  unfold holdN
  dsimp only
  repeat' split
  all_goals first
    | with_reducible exact h.rd.rd.mono (by omega)
    | with_reducible exact h.put.mono (by omega)

theorem goN_grew {b0 b : BusN} {n : Nat} (h : Grew b0 b n) (c : CpuN) (l : List UInt8) (m : Int) : Grew b0 (goN b c l m).2 (n + 6) := by
  unfold goN
  dsimp only
  repeat' split
  all_goals first
    | with_reducible exact (pushN_grew h.rd _ _ _ _).mono (by omega)
    | with_reducible exact (holdN_grew h.rd _ _).mono (by omega)
    | with_reducible exact h.rd.rd.rd.rd.rd.mono (by omega)
    | with_reducible exact h.rd.rd.put.put.rd.mono (by omega)
    | with_reducible exact h.rd.rd.rd.rd.mono (by omega)
    | with_reducible exact h.rd.rd.mono (by omega)

theorem dataN_grew {b0 b : BusN} {n : Nat} (h : Grew b0 b n) (c : CpuN) (code : Nat) : Grew b0 (dataN b c code).2 (n + 7) := by
  unfold dataN
  dsimp only
  repeat' split
  all_goals first
    | with_reducible exact h.rd.mono (by omega)
    | with_reducible exact (placeN_grew h _ _ _).rd.mono (by omega)
    | with_reducible exact (placeN_grew h _ _ _).put.mono (by omega)
    | with_reducible exact (placeN_grew h _ _ _).rd.put.put.mono (by omega)

theorem opN_grew (b : BusN) (c : CpuN) : Grew b (opN b c).2 8 := by
  have h := (Grew.same b 0).rd (a := c.PC)
  unfold opN
  dsimp only
  repeat' split
  all_goals first
    | with_reducible exact h.rd.mono (by omega)
    | with_reducible exact (branchN_grew h _ _).mono (by omega)
    | with_reducible exact (dataN_grew h _ _).mono (by omega)
    | with_reducible exact (goN_grew h _ _ _).mono (by omega)

theorem stepN_len (c : CpuN) (L : List Nat) : (stepN c L).2.mem.length ≤ L.length ∧ (stepN c L).2.log.length ≤ 8 := by
  unfold stepN
  split
  · split
    · exact ⟨Nat.le_refl _, by simp⟩
    · have h := opN_grew ⟨L, []⟩ c
      exact ⟨by have := h.1; simpa using Nat.le_of_eq this, by simpa using h.2⟩
  · exact ⟨by simp, by simp⟩

end Go.Proofs.YtblchdmemhhcbaaGreat

namespace Go.Proofs.YtblchdmemhhcbaaGreat
set_option linter.unusedVariables false
set_option linter.unusedSimpArgs false
open Go.RowKit

/-- Two boxes of one cell, as they stood behind a call. -/
theorem two_keep {w w1 : World} {B C : Nat} {u v : Value} (hb : Below w.heap.size w w1) (h : w.cell? ⟨B, 0, none⟩ = some u ∧ w.cell? ⟨C, 0, none⟩ = some v ∧ B < w.heap.size ∧ C < w.heap.size) : w1.cell? ⟨B, 0, none⟩ = some u ∧ w1.cell? ⟨C, 0, none⟩ = some v ∧ B < w1.heap.size ∧ C < w1.heap.size :=
  ⟨cellKept hb h.1 h.2.2.1, cellKept hb h.2.1 h.2.2.2, Nat.lt_of_lt_of_le h.2.2.1 hb.size, Nat.lt_of_lt_of_le h.2.2.2 hb.size⟩

end Go.Proofs.YtblchdmemhhcbaaGreat

namespace Go.Proofs.YtblchdmemhhcbaaGreat
set_option linter.unusedVariables false
set_option linter.unusedSimpArgs false
open Go.RowKit

def ImplJams : Prop := ∀ (a : Option Addr) (c pc : Nat) (L : List Nat) (w : World), pc < 65536 → L.length ≤ 1048576 → L.length ≤ c → RowB w a L → Calls Tryz.prog 13 #[ramV (.slice a L.length c), .int .u16 pc] w fun e w' => e = .returned (.bool (jamsN L pc)) ∧ Below w.heap.size w w'

def ImplStep : Prop := ∀ (c : CpuN) (a : Option Addr) (cap : Nat) (L : List Nat) (w : World), c.ok → L.length ≤ 1048576 → L.length ≤ cap → RowB w a L → Calls Tryz.prog 10 #[cpuV c, ramV (.slice a L.length cap)] w (Stepped w (stepN c L))

end Go.Proofs.YtblchdmemhhcbaaGreat

namespace Go.Proofs.YtblchdmemhhcbaaGreat
set_option linter.unusedVariables false
set_option linter.unusedSimpArgs false
open Go.RowKit

/-- A row of cycles that can be read. -/
def RowC (w : World) (a : Option Addr) (L : List CycN) : Prop :=
  0 < L.length → ∃ g o, a = some ⟨g, o, none⟩ ∧ g < w.heap.size ∧ ∀ i (h : i < L.length), w.cell? ⟨g, o + i * 3, none⟩ = some (.int .u16 (L[i].addr : Int)) ∧ w.cell? ⟨g, o + i * 3 + 1, none⟩ = some (.int .u8 (L[i].data : Int)) ∧ w.cell? ⟨g, o + i * 3 + 2, none⟩ = some (.bool L[i].wr)

theorem cyc_at (L : List CycN) : ∀ (i : Nat) (h : i < L.length), (L.flatMap cycCells)[i * 3]? = some (.int .u16 (L[i].addr : Int)) ∧ (L.flatMap cycCells)[i * 3 + 1]? = some (.int .u8 (L[i].data : Int)) ∧ (L.flatMap cycCells)[i * 3 + 2]? = some (.bool L[i].wr) := by
  induction L with
  | nil => intro i h; simp at h
  | cons c r ih =>
    intro i h
    cases i with
    | zero => simp [cycCells]
    | succ i =>
      have e1 : (i + 1) * 3 = i * 3 + 3 := by omega
      have e2 : (i + 1) * 3 + 1 = i * 3 + 1 + 3 := by omega
      have e3 : (i + 1) * 3 + 2 = i * 3 + 2 + 3 := by omega
      obtain ⟨h1, h2, h3⟩ := ih i (by simpa using h)
      rw [List.flatMap_cons, e2, e3, e1]
      refine ⟨?_, ?_, ?_⟩
      all_goals
        rw [List.getElem?_append_right (by simp [cycCells])]
        simp only [cycCells, List.length_cons, List.length_nil, Nat.zero_add, Nat.add_sub_cancel, List.getElem_cons_succ]
        assumption

theorem OwnC.row {w : World} {base : Nat} {a : Option Addr} {n cap : Nat} {L : List CycN} (h : OwnC w base (.slice a n cap) L) : n = L.length ∧ RowC w a L := by
  have h' := h
  obtain ⟨_, h2⟩ := h
  rcases h2 with ⟨h2, hn⟩ | ⟨g, cap', cur, e, hb, hh, hnc, _⟩
  · simp only [Value.slice.injEq] at h2
    refine ⟨by omega, fun h => by omega⟩
  · simp only [Value.slice.injEq] at e
    obtain ⟨rfl, rfl, rfl⟩ := e
    refine ⟨rfl, fun h0 => ⟨g, 0, rfl, (Array.getElem?_eq_some_iff.1 hh).1, fun i hi => ?_⟩⟩
    obtain ⟨c1, c2, c3⟩ := cyc_at L i hi
    simp only [Nat.zero_add]
    exact ⟨(World.ownsRow.cellAt h' (i * 3) (by omega)).trans c1, (World.ownsRow.cellAt h' (i * 3 + 1) (by omega)).trans c2, (World.ownsRow.cellAt h' (i * 3 + 2) (by omega)).trans c3⟩

theorem RowC.below {w w' : World} {a : Option Addr} {L : List CycN} (h : RowC w a L) (hb : Below w.heap.size w w') : RowC w' a L := fun h0 => by
  obtain ⟨g, o, rfl, hg, hc⟩ := h h0
  refine ⟨g, o, rfl, Nat.lt_of_lt_of_le hg hb.size, fun i hi => ?_⟩
  obtain ⟨h1, h2, h3⟩ := hc i hi
  exact ⟨cellKept hb h1 hg, cellKept hb h2 hg, cellKept hb h3 hg⟩

end Go.Proofs.YtblchdmemhhcbaaGreat

namespace Go.Proofs.YtblchdmemhhcbaaGreat
set_option linter.unusedVariables false
set_option linter.unusedSimpArgs false
open Go.RowKit

/-- A row of cycles of its own, in the blocks from lo up to hi. -/
def SegC (w : World) (lo hi : Nat) (v : Value) (L : List CycN) : Prop := OwnC w lo v L ∧ ∀ k, v.ownBlock = some k → k < hi

theorem SegC.below {w w' : World} {lo hi : Nat} {v : Value} {L : List CycN} (h : SegC w lo hi v L) (hb : Below w.heap.size w w') : SegC w' lo hi v L := ⟨ownC_below h.1 hb, h.2⟩

theorem SegC.drew {w : World} {lo hi : Nat} {v : Value} {L : List CycN} (h : SegC w lo hi v L) : SegC w.drew lo hi v L := h

theorem SegC.span {w w' : World} {lo hi lo' hi' : Nat} {v : Value} {L : List CycN} (h : SegC w lo hi v L) (hs : Span lo' hi' w w') (hd : hi ≤ lo' ∨ hi' ≤ lo) : SegC w' lo hi v L := by
  refine ⟨?_, h.2⟩
  obtain ⟨h1, h2⟩ := h.1
  refine ⟨h1, ?_⟩
  rcases h2 with hn | ⟨g, cap, cur, hv, hb, hg, hrest⟩
  · exact .inl hn
  · have hgl : g < hi := h.2 g (by rw [hv]; rfl)
    exact .inr ⟨g, cap, cur, hv, hb, (hs.block g (Array.getElem?_eq_some_iff.1 hg).1 (by omega)).trans hg, hrest⟩

theorem SegC.row {w : World} {lo hi : Nat} {a : Option Addr} {n cap : Nat} {L : List CycN} (h : SegC w lo hi (.slice a n cap) L) : RowC w a L := (OwnC.row h.1).2

/-- What such a call leaves. -/
def Steps3 (V : World) (r : CpuN × BusN) (e : Ending) (W : World) : Prop :=
  ∃ a cap a2 cap2 lo hi lo2 hi2, e = .returned (.tuple #[cpuV r.1, ramV (.slice a r.2.mem.length cap), .slice a2 r.2.log.length cap2]) ∧ SegB W lo hi (.slice a r.2.mem.length cap) r.2.mem ∧ SegC W lo2 hi2 (.slice a2 r.2.log.length cap2) r.2.log ∧
    (V.heap.size ≤ lo ∧ hi ≤ W.heap.size ∧ V.heap.size ≤ lo2 ∧ hi2 ≤ W.heap.size ∧ lo ≤ hi ∧ lo2 ≤ hi2 ∧ (hi ≤ lo2 ∨ hi2 ≤ lo)) ∧ Below V.heap.size V W

theorem Stepped.three {V W : World} {r : CpuN × BusN} {e : Ending} (h : Stepped V r e W) : Steps3 V r e W := by
  obtain ⟨v, u, rfl, ho, hc, hne, hb⟩ := h
  have hz := hb.size
  have B1 : ∃ a cap, v = .slice a r.2.mem.length cap ∧ ((∃ g, v.ownBlock = some g ∧ V.heap.size ≤ g ∧ g < W.heap.size) ∨ v.ownBlock = none) := by
    obtain ⟨h1, h2⟩ := ho.2
    rcases h2 with ⟨hn, h0⟩ | ⟨g, cp, cur, hv, hg, hh, _⟩
    · exact ⟨none, 0, by rw [hn]; rw [show r.2.mem.length = 0 by simpa using h0], .inr (by rw [hn]; rfl)⟩
    · exact ⟨_, _, hv, .inl ⟨g, by rw [hv]; rfl, hg, (Array.getElem?_eq_some_iff.1 hh).1⟩⟩
  have B2 : ∃ a cap, u = .slice a r.2.log.length cap ∧ ((∃ g, u.ownBlock = some g ∧ V.heap.size ≤ g ∧ g < W.heap.size) ∨ u.ownBlock = none) := by
    obtain ⟨h1, h2⟩ := hc
    rcases h2 with ⟨hn, h0⟩ | ⟨g, cp, cur, hv, hg, hh, _⟩
    · exact ⟨none, 0, by rw [hn]; rw [show r.2.log.length = 0 by simpa using h0], .inr (by rw [hn]; rfl)⟩
    · exact ⟨_, _, hv, .inl ⟨g, by rw [hv]; rfl, hg, (Array.getElem?_eq_some_iff.1 hh).1⟩⟩
  obtain ⟨a, cap, rfl, A1⟩ := B1
  obtain ⟨a2, cap2, rfl, A2⟩ := B2
  have own1 : ∀ n, (∀ k, (Value.slice a r.2.mem.length cap).ownBlock = some k → n ≤ k) → OwnB W n (.slice a r.2.mem.length cap) r.2.mem := fun n hn => ⟨ho.1, ownsRow_up ho.2 hn⟩
  have own2 : ∀ n, (∀ k, (Value.slice a2 r.2.log.length cap2).ownBlock = some k → n ≤ k) → OwnC W n (.slice a2 r.2.log.length cap2) r.2.log := fun n hn => ownsRow_up hc hn
  rcases A1 with ⟨g, e1, g1, g2⟩ | e1 <;> rcases A2 with ⟨g', e2, g3, g4⟩ | e2
  · refine ⟨a, cap, a2, cap2, g, g + 1, g', g' + 1, rfl, ⟨own1 g ?_, ?_⟩, ⟨own2 g' ?_, ?_⟩, ⟨g1, g2, g3, g4, by omega, by omega, ?_⟩, hb⟩
    · intro k ek; rw [e1] at ek; simp only [Option.some.injEq] at ek; omega
    · intro k ek; rw [e1] at ek; simp only [Option.some.injEq] at ek; omega
    · intro k ek; rw [e2] at ek; simp only [Option.some.injEq] at ek; omega
    · intro k ek; rw [e2] at ek; simp only [Option.some.injEq] at ek; omega
    · have : g ≠ g' := fun e => hne g e1 (by rw [e2, e])
      omega
  · refine ⟨a, cap, a2, cap2, g, g + 1, W.heap.size, W.heap.size, rfl, ⟨own1 g ?_, ?_⟩, ⟨own2 _ ?_, ?_⟩, ⟨g1, g2, hz, Nat.le_refl _, by omega, by omega, .inl (by omega)⟩, hb⟩
    · intro k ek; rw [e1] at ek; simp only [Option.some.injEq] at ek; omega
    · intro k ek; rw [e1] at ek; simp only [Option.some.injEq] at ek; omega
    · intro k ek; rw [e2] at ek; cases ek
    · intro k ek; rw [e2] at ek; cases ek
  · refine ⟨a, cap, a2, cap2, W.heap.size, W.heap.size, g', g' + 1, rfl, ⟨own1 _ ?_, ?_⟩, ⟨own2 g' ?_, ?_⟩, ⟨hz, Nat.le_refl _, g3, g4, by omega, by omega, .inr (by omega)⟩, hb⟩
    · intro k ek; rw [e1] at ek; cases ek
    · intro k ek; rw [e1] at ek; cases ek
    · intro k ek; rw [e2] at ek; simp only [Option.some.injEq] at ek; omega
    · intro k ek; rw [e2] at ek; simp only [Option.some.injEq] at ek; omega
  · refine ⟨a, cap, a2, cap2, W.heap.size, W.heap.size, W.heap.size, W.heap.size, rfl, ⟨own1 _ ?_, ?_⟩, ⟨own2 _ ?_, ?_⟩, ⟨hz, Nat.le_refl _, hz, Nat.le_refl _, by omega, by omega, .inl (by omega)⟩, hb⟩
    · intro k ek; rw [e1] at ek; cases ek
    · intro k ek; rw [e1] at ek; cases ek
    · intro k ek; rw [e2] at ek; cases ek
    · intro k ek; rw [e2] at ek; cases ek

end Go.Proofs.YtblchdmemhhcbaaGreat

namespace Go.Proofs.YtblchdmemhhcbaaGreat
set_option linter.unusedVariables false
set_option linter.unusedSimpArgs false
open Go.RowKit

set_option maxRecDepth 100000 in
set_option maxHeartbeats 2000000 in
theorem step_jam (c : CpuN) (hc : c.ok) (g o cap : Nat) (L : List Nat) (h : ramN L.length = true) (hj : jamsN L c.PC = true) (w : World) (hr : RowB w (some ⟨g, o, none⟩) L) :
    Calls Tryz.prog 11 #[cpuV c, ramV (.slice (some ⟨g, o, none⟩) L.length cap)] w (Stepped w (stepN c L)) := by
  have hc' := hc
  obtain ⟨hA, hX, hY, hS, hP⟩ := hc
  have HO := fun w => specOk_any (some ⟨g, o, none⟩) L.length cap w
  rw [h] at HO
  have hn := ramN_pos h
  have hgL : g < w.heap.size := by
    obtain ⟨g', o', e, hg', _⟩ := hr.2 (by omega)
    simp only [Option.some.injEq, Addr.mk.injEq] at e
    omega
  obtain ⟨i0, hi, hz0, hz1, hz2⟩ := info_parts infoU8
  obtain ⟨res, hres⟩ : ∃ r_, stepN c L = r_ := ⟨_, rfl⟩
  have HRES := Lib.hid hres
  rw [hres]
  have HH := Lib.hid h
  have HR := Lib.hid hr
  clear h hr hres
  go_enter Tryz.func11, Tryz.ntmps11
  go_wp2_with fail
  refine (HO _).mono ?_
  rintro e w1 ⟨rfl, d1⟩
  obtain ⟨q0, r0, y0, x0, b0, z0⟩ := four_call d1
  have hcp := (r0.below ((Below.refl _ w1).alloc (Nat.le_refl _) (.cells #[] 5))).cell 0 _ rfl
  have HN := Lib.hid (RowB.below (RowB.below HR.out b0) ((Below.refl _ w1).alloc (Nat.le_refl _) (.cells #[] 5)))
  have hO0 := emptyOwn (base := w1.heap.size) w1 rfl (Nat.le_refl _)
  clear d1 HO
  go_wp2_with (at_builtin; refine wpList_append_own _ rfl _ _ 22 rfl w1.heap.size 5 i0 (.int .u8 0) 1 1 Tryz.underlying22 hi hz0 hz1 hz2 rfl (by decide) _ _ _ rfl hO0 ⟨g, o, none⟩ L.length cap (L.map u8V) rfl (by simp) (rowCells HN.out) (u8V_one L) ?c3 ?c4 ?c5 ?_)
  case c3 => unfold maxLen; first | omega | (simp; omega)
  case c4 => first | omega | (simp; omega)
  case c5 => first | omega | (simp; done) | (simp; omega)
  intro v' w4 hown' hgrow _
  have hO4 : OwnB w4 w1.heap.size v' L := ⟨HR.out.1, by simpa using hown'⟩
  obtain ⟨g4, c4, rfl, _⟩ := hO4.cells (by omega)
  have hge := ((World.ownsRow.lt hO4.2) g4 rfl).1
  have b4 : Below w.heap.size w w4 := (b0.alloc (by omega) _).grown hgrow (by simp; omega) (fun j ej => by simp [Value.ownBlock] at ej; omega)
  have kp : ∀ j t cs, j < w.heap.size + 4 → BoxN w1 j t cs → BoxN w4 j t cs := fun j t cs hj hb => by
    have hb2 := hb.below ((Below.refl _ w1).alloc (Nat.le_refl _) (.cells #[] 5))
    exact (hgrow.block j hb2.lt (by simp [Value.ownBlock]; omega)).trans hb2
  have S0 := Sit.start b4 (by have := hgrow.size; simp at this; omega) hO4 (by omega)
  have al : Below w4.heap.size w4 (w4.alloc (.cells #[.slice (some ⟨g4, 0, none⟩) L.length c4, .slice none 0 0] 78)) := (Below.refl _ _).alloc (Nat.le_refl _) _
  have q1 := (kp _ _ _ (by omega) q0).below al
  have r1 := (kp _ _ _ (by omega) r0).below al
  have y1 := (kp _ _ _ (by omega) y0).below al
  have x1 := (kp _ _ _ (by omega) x0).below al
  have HN5 := Lib.hid (RowB.below HR.out (b4.alloc b4.size (.cells #[.slice (some ⟨g4, 0, none⟩) L.length c4, .slice none 0 0] 78)))
  have hbus := (BoxN.new w4 78 #[.slice (some ⟨g4, 0, none⟩) L.length c4, .slice none 0 0]).lt
  have hw4 : w.heap.size + 4 ≤ w4.heap.size := by have := hgrow.size; simp at this; omega
  clear hown' hgrow hO4 hge kp al q0 r0 y0 x0 b0 z0 hcp HN hO0 b4 HR
  obtain ⟨B, hB⟩ : ∃ r_, w4.heap.size = r_ := ⟨_, rfl⟩
  rw [hB] at S0 hbus hw4
  have pc0 := q1.cell 4 _ rfl
  have rc0 := r1.cell 0 _ rfl
  go_wp2_with fail
  refine (specJams_any (some ⟨g, o, none⟩) cap c.PC L hP _ HN5.out).mono ?_
  rintro e w6 ⟨rfl, d6⟩
  have q2 := q1.below d6
  have y2 := y1.below d6
  have x2 := x1.below d6
  have S2 := S0.below d6
  clear d6 q1 r1 y1 x1 S0 pc0 rc0 HN5 hbus hB
  rw [hj]
  have e : res = (c, ⟨L, []⟩) := by rw [← HRES.out]; unfold stepN; rw [if_pos HH.out, if_pos hj]
  subst e
  clear HRES hj
  obtain ⟨gg, cc, vv, m0, m1, hBl, hBn, ho, hcy, hvv, hgg⟩ := S2.rows
  dsimp only at m0 ho
  obtain ⟨g0, g1, g2, g3, g4, g5, g6, g7, g8, g9, g10, f0⟩ := eleven q2
  obtain ⟨h0, h1, h2, h3, h4, h5, h6, h7, h8, h9, h10, f1⟩ := eleven y2
  have x0c := x2.cell 0 _ rfl
  have fx := fun k => x2.frozen k
  have HQ := Lib.hid (And.intro S2 (And.intro ho (And.intro hvv hgg)))
  have n0 := q2.lt
  have n1 := y2.lt
  have n2 := x2.lt
  clear ho hcy hvv hgg q2 y2 x2 S2 m1
  go_wp2_with fail
  go_region
  all_goals
    go_wp2
    refine bodyPost_ret (v := .tuple #[cpuV c, ramV (.slice (some ⟨gg, 0, none⟩) L.length cc), .slice (some ⟨w6.heap.size, 0, none⟩) 0 0]) (by simp [results, Tryz.results11, go_sem, h0, h1, h2, h3, h4, h5, h6, h7, h8, h9, h10, x0c, n0, n1, n2]) rfl ?_
    obtain ⟨S3, ho, hvv, hgg⟩ := HQ.out
    have hgl := ((World.ownsRow.lt ho.2) gg rfl).2
    have hz6 := S3.size
    refine ⟨_, _, rfl, OwnB.spanned ho (lo := w.heap.size) (hi := w.heap.size + 4) ?_ (fun j ej => by simp only [Value.ownBlock, Option.some.injEq] at ej; omega), ?_, fun j ej => ?_, S3.turn.new.trans (Span.below (lo := w.heap.size) (hi := w.heap.size + 4) ?_ (Nat.le_refl _) (by omega))⟩
    any_goals (
      repeat (any_goals (first | (with_reducible exact Span.refl _ _ _) | (with_reducible refine Span.drew ?_) | (with_reducible refine Span.more ?_ _) | (with_reducible refine Span.inn ?_ _ ?_ ?_)))
      all_goals omega)
    · exact ram_at (by simp) (by omega)
    · simp only [Value.ownBlock, Option.some.injEq] at ej
      simp only [Value.ownBlock, ne_eq, Option.some.injEq]
      omega

end Go.Proofs.YtblchdmemhhcbaaGreat
