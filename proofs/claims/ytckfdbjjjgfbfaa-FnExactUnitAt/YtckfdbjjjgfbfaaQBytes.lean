/-
  Contracts over the law's own helpers for rows of bytes: a copy of a row, two rows that are alike, marks that are written into a row and found there again.
-/
import Derived.Test.YtckfdbjjjgfbfaaRows
import Derived.WalkKit
import Derived.WalkSpells
import Derived.WalkLawsBesides
import Derived.OwnWalk
import Derived.Lib.Hide
import Derived.Below
import Derived.WalkSmall
import Derived.Laws.MakeOwn
import Derived.Laws.OwnMore
import Derived.Deep.QuietTactic
import Derived.BigQuiet
import Derived.Deep.Draws
namespace Go.Proofs.Ytckfdbjjjgfbfaa
set_option linter.unusedVariables false
set_option linter.unusedSimpArgs false
open Go.RowKit

def u8V (x : Nat) : Value := .int .u8 (x : Int)

/-- A row of bytes, wherever it lies. -/
def RowB (w : World) (a : Option Addr) (L : List Nat) : Prop :=
  (∀ i, i < L.length → L.getD i 0 < 256) ∧ (0 < L.length → ∃ g o, a = some ⟨g, o, none⟩ ∧ g < w.heap.size ∧ ∀ i, i < L.length → w.cell? ⟨g, o + i, none⟩ = some (u8V (L.getD i 0)))

/-- A row of bytes in memory of its own, from block 'base' on. -/
def OwnB (w : World) (base : Nat) (v : Value) (L : List Nat) : Prop := (∀ i, i < L.length → L.getD i 0 < 256) ∧ w.ownsRow base 5 1 v L.length (L.map u8V)

theorem addrB (g j : Nat) : (⟨g, 0, none⟩ : Addr).add j = ⟨g, j, none⟩ := by
  unfold Addr.add; split <;> simp_all

theorem OwnB.len {w : World} {base : Nat} {v : Value} {L : List Nat} (h : OwnB w base v L) : ∃ a cap, v = .slice a L.length cap := by
  rcases h.2.2 with ⟨rfl, h0⟩ | ⟨g, cap, _, rfl, _⟩
  · exact ⟨none, 0, by rw [h0]⟩
  · exact ⟨_, _, rfl⟩

theorem OwnB.row {w : World} {base : Nat} {a : Option Addr} {n cap : Nat} {L : List Nat} (h : OwnB w base (.slice a n cap) L) : n = L.length ∧ RowB w a L := by
  have h' := h.2
  rcases h.2.2 with ⟨hv, h0⟩ | ⟨g, cp, cur, hv, hb, hg, h1, h2, h3, _⟩
  · simp only [Value.slice.injEq] at hv
    exact ⟨by omega, h.1, fun hl => by omega⟩
  · simp only [Value.slice.injEq] at hv
    obtain ⟨rfl, rfl, rfl⟩ := hv
    refine ⟨rfl, h.1, fun _ => ⟨g, 0, rfl, (Array.getElem?_eq_some_iff.1 hg).1, fun i hi => ?_⟩⟩
    have := World.ownsRow.cells h' (g := g) rfl i (u8V (L.getD i 0)) (by simp [List.getD, hi])
    rw [addrB] at this
    rwa [Nat.zero_add]

theorem OwnB.below {w w' : World} {base : Nat} {v : Value} {L : List Nat} (h : OwnB w base v L) (hb : Below w.heap.size w w') : OwnB w' base v L := by
  refine ⟨h.1, World.ownsRow.kept h.2 (row := none) ⟨hb.os, hb.tape, hb.output, hb.size, fun i hi _ => hb.block i hi⟩ ?_⟩
  cases v.ownBlock with
  | none => exact .inl rfl
  | some g => exact .inr (by simp)

theorem OwnB.drewN {w : World} {base : Nat} {v : Value} {L : List Nat} (h : OwnB w base v L) (k : Nat) : OwnB (w.drewN k) base v L := h

theorem RowB.below {w w' : World} {a : Option Addr} {L : List Nat} (h : RowB w a L) (hb : Below w.heap.size w w') : RowB w' a L := by
  refine ⟨h.1, fun hl => ?_⟩
  obtain ⟨g, o, rfl, hg, hc⟩ := h.2 hl
  exact ⟨g, o, rfl, Nat.lt_of_lt_of_le hg hb.size, fun i hi => (hb.cell (p := ⟨g, o + i, none⟩) hg).trans (hc i hi)⟩

theorem RowB.drewN {w : World} {a : Option Addr} {L : List Nat} (h : RowB w a L) (k : Nat) : RowB (w.drewN k) a L := h

theorem infoU8 : (Try.prog.info? 5).map (fun i => (i.zero, i.size, i.bytes)) = some (some (.int .u8 0), 1, 1) := by kernel_rfl

theorem madeOne (v : Value) (n : Nat) : madeCells #[v] n = (List.replicate n v).toArray := by
  apply Array.ext
  · simp [madeCells]
  · intro i h1 h2
    simp [madeCells, Nat.mod_one]

set_option maxRecDepth 100000 in
theorem makeB (d : Nat) (h : d ≤ 1048576) (w : World) : (Instr.makeSlice 22 (.int .i64 (d : Int)) (.int .i64 (d : Int))).run Try.prog w =
    .ok (.slice (some ⟨w.heap.size, 0, none⟩) d d) (w.alloc (.cells (List.replicate d (Value.int .u8 0)).toArray 5)) := by
  obtain ⟨i0, hi, hz0, hz1, hz2⟩ := info_parts infoU8
  have hr := run_make (P := Try.prog) w 22 5 i0 (.int .u8 0) Try.underlying22 hi hz0 .i64 .i64 d d (by omega) (by omega) (by rw [hz2]; omega) (by omega)
  simp only [Int.toNat_natCast] at hr
  rw [hr, hz1, Nat.mul_one]
  congr 3
  exact madeOne _ _

/-- The cells of a copy when k bytes are there. -/
def partB (L : List Nat) (k : Nat) : List Value := (L.take k).map u8V ++ List.replicate (L.length - k) (.int .u8 0)

theorem partB_len (L : List Nat) (k : Nat) (hk : k ≤ L.length) : (partB L k).length = L.length := by simp [partB]; omega

theorem partB_set (L : List Nat) (k : Nat) (hk : k < L.length) : (partB L k).toArray.setIfInBounds k (u8V (L.getD k 0)) = (partB L (k + 1)).toArray := by
  apply Array.ext'
  simp only [Array.toList_setIfInBounds, partB]
  rw [List.set_append_right _ _ (by simp; omega)]
  have e1 : k - ((L.take k).map u8V).length = 0 := by simp; omega
  obtain ⟨m, hm⟩ : ∃ m, L.length - k = m + 1 := ⟨L.length - k - 1, by omega⟩
  rw [e1, hm, List.replicate_succ, List.set_cons_zero, show L.length - (k + 1) = m by omega, List.take_add_one, List.map_append]
  simp [List.getD, hk]

theorem partB_at (L : List Nat) (k : Nat) (hk : k < L.length) : (partB L k).toArray[k]? = some (.int .u8 0) := by
  simp only [List.getElem?_toArray, partB]
  have e : ((L.take k).map u8V).length = k := by simp; omega
  rw [List.getElem?_append_right (by omega), e, Nat.sub_self, List.getElem?_replicate, if_pos (by omega)]

set_option maxRecDepth 100000 in
theorem toB_any (a : Option Addr) (cap : Nat) (L : List Nat) (w : World) (hl : L.length ≤ 1048576) (h : RowB w a L) :
    Calls Try.prog 28 #[.slice a L.length cap] w fun e w' => e = .returned (.slice (some ⟨w.heap.size, 0, none⟩) L.length L.length) ∧ w.alloc (.cells (L.map u8V).toArray 5) = w' := by
  have hmk := fun w => makeB L.length hl w
  have hp0 : partB L 0 = List.replicate L.length (.int .u8 0) := by simp [partB]
  have hpn : partB L L.length = L.map u8V := by simp [partB]
  have HP0 := Lib.hid hp0
  have HPN := Lib.hid hpn
  clear hp0 hpn
  have HR := Lib.hid h
  clear h
  go_enter Try.func28, Try.ntmps28
  go_wp2
  go_loopw [4] (fun i wr => ∃ (k : Nat) (C : Array Value), k ≤ L.length ∧ i = .int .i64 k ∧ wr = w.alloc (.cells C 5) ∧ Hid (C = (partB L k).toArray)) (fun i _ => L.length - (intOf i).toNat)
  case atStart => exact ⟨0, (List.replicate L.length (.int .u8 0)).toArray, Nat.zero_le _, rfl, rfl, Lib.hid (by rw [HP0.out])⟩
  case round =>
    obtain ⟨k, C, hk, rfl, rfl, HC⟩ := hrel
    by_cases hp : k < L.length
    · obtain ⟨g, o, rfl, hg, hc⟩ := HR.out.2 (by omega)
      have hck := hc k hp
      have hcell : (w.alloc (.cells C 5)).cell? ⟨g, o + k, none⟩ = some (u8V (L.getD k 0)) := by rw [World.cell?_alloc_past _ _ _ hg]; exact hck
      have hat : (w.alloc (.cells C 5)).cell? ⟨w.heap.size, k, none⟩ = some (.int .u8 0) := by
        rw [World.cell?_alloc_at _ _ _ _ rfl, HC.out]; exact partB_at L k hp
      have hsz : C.size = L.length := by rw [HC.out]; simpa using partB_len L k hk
      have hset : C.setIfInBounds k (u8V (L.getD k 0)) = (partB L (k + 1)).toArray := by rw [HC.out]; exact partB_set L k hp
      clear hc hck
      obtain ⟨x, hx⟩ : ∃ x, L.getD k 0 = x := ⟨_, rfl⟩
      rw [hx] at hcell hset
      have HSET := Lib.hid hset
      clear hset hx
      unfold u8V at hcell
      go_wp2
      go_roundw
      case rel => exact ⟨k + 1, _, by omega, by go_num, rfl, Lib.hid (by rw [← HSET.out]; rfl)⟩
      case measure => simp [intOf]; omega
    · obtain rfl : k = L.length := by omega
      go_wp2
      go_ret
      exact ⟨rfl, by rw [HC.out, HPN.out]⟩

set_option maxRecDepth 100000 in
theorem eqB_true (a1 a2 : Option Addr) (c1 c2 : Nat) (L : List Nat) (w : World) (hl : L.length ≤ 9223372036854775806) (h1 : RowB w a1 L) (h2 : RowB w a2 L) :
    Calls Try.prog 33 #[.slice a1 L.length c1, .slice a2 L.length c2] w fun e w' => e = .returned (.bool true) ∧ ∃ k, w' = w.drewN k := by
  have H1 := Lib.hid h1
  have H2 := Lib.hid h2
  clear h1 h2
  go_enter Try.func33, Try.ntmps33
  go_wp2
  go_loopw [5] (fun i wr => ∃ k d : Nat, k ≤ L.length ∧ i = .int .i64 k ∧ wr = w.drewN d) (fun i _ => L.length - (intOf i).toNat)
  case atStart => exact ⟨0, 0, Nat.zero_le _, rfl, rfl⟩
  case round =>
    obtain ⟨k, d, hk, rfl, rfl⟩ := hrel
    by_cases hp : k < L.length
    · obtain ⟨g1, o1, rfl, _, e1⟩ := H1.out.2 (by omega)
      obtain ⟨g2, o2, rfl, _, e2⟩ := H2.out.2 (by omega)
      have f1 := e1 k hp
      have f2 := e2 k hp
      clear e1 e2
      obtain ⟨x, hx⟩ : ∃ x, L.getD k 0 = x := ⟨_, rfl⟩
      rw [hx] at f1 f2
      clear hx
      unfold u8V at f1 f2
      go_wp2
      go_quiet (fail)
      go_wp2
      go_roundw
      case rel => exact ⟨k + 1, _, by omega, by go_num, rfl⟩
      case measure => simp [intOf]; omega
    · go_wp2
      go_ret
      exact ⟨rfl, _, rfl⟩

theorem grownB_trans {x y u : World} {row : Option Nat} (h : x.grownBy y row) (k : y.grownBy u row) : x.grownBy u row :=
  ⟨k.os.trans h.os, k.tape.trans h.tape, k.output.trans h.output, Nat.le_trans h.size k.size, fun j hj hn => (k.block j (Nat.lt_of_lt_of_le hj h.size) hn).trans (h.block j hj hn)⟩

end Go.Proofs.Ytckfdbjjjgfbfaa
