/-
  Rows of cycles: the exact laws' own helpers (eqCyc, eqCycS, markCycS, heldCycS).
-/
import Derived.Test.YtckfdbjjjgfbfaaQBus
import Derived.StillTailTactics
namespace Go.Proofs.Ytckfdbjjjgfbfaa
set_option linter.unusedVariables false
set_option linter.unusedSimpArgs false
open Go.RowKit

/-- A row of cycles that can be read. -/
def RowC (w : World) (a : Option Addr) (L : List CycN) : Prop :=
  0 < L.length → ∃ g o, a = some ⟨g, o, none⟩ ∧ g < w.heap.size ∧ ∀ i (h : i < L.length), w.cell? ⟨g, o + i * 3, none⟩ = some (.int .u16 (L[i].addr : Int)) ∧ w.cell? ⟨g, o + i * 3 + 1, none⟩ = some (.int .u8 (L[i].data : Int)) ∧ w.cell? ⟨g, o + i * 3 + 2, none⟩ = some (.bool L[i].wr)

theorem cyc_at (L : List CycN) : ∀ (i : Nat) (h : i < L.length), (L.flatMap cycCells)[i * 3]? = some (.int .u16 (L[i].addr : Int)) ∧ (L.flatMap cycCells)[i * 3 + 1]? = some (.int .u8 (L[i].data : Int)) ∧ (L.flatMap cycCells)[i * 3 + 2]? = some (.bool L[i].wr) := by
  induction L with
  | nil => intro i h; simp at h
  | cons c r ih =>
    intro i h
    cases i with
    | zero => simp [cycCells]
    | succ i =>
      have e1 : (i + 1) * 3 = i * 3 + 3 := by omega
      have e2 : (i + 1) * 3 + 1 = i * 3 + 1 + 3 := by omega
      have e3 : (i + 1) * 3 + 2 = i * 3 + 2 + 3 := by omega
      obtain ⟨h1, h2, h3⟩ := ih i (by simpa using h)
      rw [List.flatMap_cons, e2, e3, e1]
      refine ⟨?_, ?_, ?_⟩
      all_goals
        rw [List.getElem?_append_right (by simp [cycCells])]
        simp only [cycCells, List.length_cons, List.length_nil, Nat.zero_add, Nat.add_sub_cancel, List.getElem_cons_succ]
        assumption

theorem OwnC.row {w : World} {base : Nat} {a : Option Addr} {n cap : Nat} {L : List CycN} (h : OwnC w base (.slice a n cap) L) : n = L.length ∧ RowC w a L := by
  have h' := h
  obtain ⟨_, h2⟩ := h
  rcases h2 with ⟨h2, hn⟩ | ⟨g, cap', cur, e, hb, hh, hnc, _⟩
  · simp only [Value.slice.injEq] at h2
    refine ⟨by omega, fun h => by omega⟩
  · simp only [Value.slice.injEq] at e
    obtain ⟨rfl, rfl, rfl⟩ := e
    refine ⟨rfl, fun h0 => ⟨g, 0, rfl, (Array.getElem?_eq_some_iff.1 hh).1, fun i hi => ?_⟩⟩
    obtain ⟨c1, c2, c3⟩ := cyc_at L i hi
    simp only [Nat.zero_add]
    exact ⟨(World.ownsRow.cellAt h' (i * 3) (by omega)).trans c1, (World.ownsRow.cellAt h' (i * 3 + 1) (by omega)).trans c2, (World.ownsRow.cellAt h' (i * 3 + 2) (by omega)).trans c3⟩

theorem RowC.below {w w' : World} {a : Option Addr} {L : List CycN} (h : RowC w a L) (hb : Below w.heap.size w w') : RowC w' a L := fun h0 => by
  obtain ⟨g, o, rfl, hg, hc⟩ := h h0
  refine ⟨g, o, rfl, Nat.lt_of_lt_of_le hg hb.size, fun i hi => ?_⟩
  obtain ⟨h1, h2, h3⟩ := hc i hi
  exact ⟨cellKept hb h1 hg, cellKept hb h2 hg, cellKept hb h3 hg⟩

theorem eqCyc_true (x y : Int) (b : Bool) (w : World) :
    Calls Try.prog 60 #[.agg #[.int .u16 x, .int .u8 y, .bool b], .agg #[.int .u16 x, .int .u8 y, .bool b]] w fun e w' => e = .returned (.bool true) ∧ Below w.heap.size w w' := by
  go_enter Try.func60, Try.ntmps60
  go_wp2
  go_ret
  exact ⟨rfl, ((Below.refl _ _).alloc (Nat.le_refl _) _).alloc (by simp) _⟩

set_option maxRecDepth 100000 in
theorem eqCycS_true (a1 a2 : Option Addr) (c1 c2 : Nat) (L : List CycN) (w : World) (hl : L.length ≤ 1048576) (h1 : RowC w a1 L) (h2 : RowC w a2 L) :
    Calls Try.prog 42 #[.slice a1 L.length c1, .slice a2 L.length c2] w fun e w' => e = .returned (.bool true) ∧ Below w.heap.size w w' := by
  have H1 := Lib.hid h1
  have H2 := Lib.hid h2
  clear h1 h2
  go_enter Try.func42, Try.ntmps42
  go_wp2
  go_loopw [5] (fun i wr => ∃ k : Nat, k ≤ L.length ∧ i = .int .i64 k ∧ Below w.heap.size w wr) (fun i _ => L.length - (intOf i).toNat)
  case atStart => exact ⟨0, Nat.zero_le _, rfl, Below.refl _ _⟩
  case round =>
    obtain ⟨k, hk, rfl, hb⟩ := hrel
    by_cases hp : k < L.length
    · obtain ⟨g1, o1, rfl, _, e1⟩ := (H1.out.below hb) (by omega)
      obtain ⟨g2, o2, rfl, _, e2⟩ := (H2.out.below hb) (by omega)
      obtain ⟨f1, f2, f3⟩ := e1 k hp
      obtain ⟨f4, f5, f6⟩ := e2 k hp
      clear e1 e2
      obtain ⟨x, hx⟩ : ∃ x, L[k].addr = x := ⟨_, rfl⟩
      obtain ⟨y, hy⟩ : ∃ x, L[k].data = x := ⟨_, rfl⟩
      obtain ⟨b, hbb⟩ : ∃ x, L[k].wr = x := ⟨_, rfl⟩
      rw [hx] at f1 f4
      rw [hy] at f2 f5
      rw [hbb] at f3 f6
      clear hx hy hbb
      have ik : (0 : Int) ≤ (k : Int) ∧ (k : Int) < (L.length : Int) := by omega
      go_wp2_with fail
      go_still_tail 8, (by kernel_rfl)
      change wpList _ _ _ _ _ wr.drew
      go_wp2_with fail
      refine (eqCyc_true _ _ _ _).mono ?_
      rintro e w1 ⟨rfl, d1⟩
      have b1 := bstep hb.drew d1
      go_wp2
      go_roundw
      case rel => exact ⟨k + 1, by omega, by go_num, b1⟩
      case measure => simp [intOf]; omega
    · go_wp2
      go_ret
      exact ⟨rfl, hb⟩

end Go.Proofs.Ytckfdbjjjgfbfaa
