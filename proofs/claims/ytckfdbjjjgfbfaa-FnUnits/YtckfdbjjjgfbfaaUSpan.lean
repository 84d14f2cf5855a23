/-
  What a call may change of the memory: only the blocks from lo up to hi. Boxes and rows elsewhere stand as they stood.
-/
import Derived.WalkKit
import Derived.RegionTactic
import Derived.Test.YtckfdbjjjgfbfaaProg
import Derived.Test.YtckfdbjjjgfbfaaRows
import Derived.WalkSpells
import Derived.WalkLawsBesides
import Derived.OwnWalk
import Derived.Lib.Hide
import Derived.Below
import Derived.WalkSmall
import Derived.Laws.MakeOwn
import Derived.Laws.OwnMore
import Derived.Deep.QuietTactic
import Derived.BigQuiet
import Derived.Deep.Draws
import Derived.RangeFuncBox
namespace Go.Proofs.Ytckfdbjjjgfbfaa
set_option linter.unusedVariables false
set_option linter.unusedSimpArgs false

/-- How many operations are still to be done. -/
def undone (n : Nat) (listed : Array Bool) : Nat := ((List.range n).filter fun i => !listed.getD i true).length

theorem filter_less {p q : Nat → Bool} {i : Nat} (hp : p i = false) (hq : q i = true) (hpq : ∀ x, x ≠ i → p x = q x) : ∀ l : List Nat, (l.filter p).length ≤ (l.filter q).length ∧ (i ∈ l → (l.filter p).length < (l.filter q).length)
  | [] => ⟨Nat.le_refl _, fun h => by cases h⟩
  | x :: r => by
    obtain ⟨h1, h2⟩ := filter_less hp hq hpq r
    by_cases hx : x = i
    · subst hx
      rw [List.filter_cons_of_neg (by simp [hp]), List.filter_cons_of_pos hq, List.length_cons]
      exact ⟨by omega, fun _ => by omega⟩
    · have e := hpq x hx
      cases hv : q x with
      | false =>
        rw [List.filter_cons_of_neg (by simp [e, hv]), List.filter_cons_of_neg (by simp [hv])]
        exact ⟨h1, fun h => h2 ((List.mem_cons.1 h).resolve_left (Ne.symm hx))⟩
      | true =>
        rw [List.filter_cons_of_pos (by rw [e, hv]), List.filter_cons_of_pos hv, List.length_cons, List.length_cons]
        refine ⟨by omega, fun h => ?_⟩
        have := h2 ((List.mem_cons.1 h).resolve_left (Ne.symm hx))
        omega

theorem undone_step {n i : Nat} {listed : Array Bool} (hi : i < n) (hl : listed.getD i true = false) : undone n (listed.setIfInBounds i true) < undone n listed := by
  have hsz : i < listed.size := by
    rcases Nat.lt_or_ge i listed.size with h | h
    · exact h
    · rw [Array.getD_eq_getD_getElem?, Array.getElem?_eq_none h] at hl; simp at hl
  have e1 : (listed.setIfInBounds i true).getD i true = true := by rw [Array.getD_eq_getD_getElem?, Array.getElem?_setIfInBounds_self_of_lt hsz]; rfl
  exact (filter_less (p := fun j => !(listed.setIfInBounds i true).getD j true) (q := fun j => !listed.getD j true) (i := i) (by rw [e1]; rfl) (by rw [hl]; rfl) (fun x hx => by
    show (!(listed.setIfInBounds i true).getD x true) = !listed.getD x true
    rw [Array.getD_eq_getD_getElem?, Array.getD_eq_getD_getElem?, Array.getElem?_setIfInBounds_ne (Ne.symm hx)]) (List.range n)).2 (List.mem_range.2 hi)

theorem ready_mem {md : Region.Mode} {ops : Array Oper} {listed : Array Bool} {i : Nat} (h : i ∈ Region.ready md ops listed) : i < ops.size ∧ listed.getD i true = false := by
  unfold Region.ready at h
  rw [List.mem_filter, Bool.and_eq_true] at h
  exact ⟨List.mem_range.1 h.1, by simpa using h.2.1⟩

/-- THE LAW: what each operation that may come next keeps, whatever is done, holds at the end. -/
theorem wpAny_inv {P : Program} {md : Region.Mode} {ops : Array Oper} {Q : Exit → Act → World → Prop} (I : Array Bool → Act → World → Prop)
    (hstep : ∀ listed a w i, i ∈ Region.ready md ops listed → I listed a w → wpOp P ops Q i (I (listed.setIfInBounds i true)) a w)
    (hdone : ∀ listed a w, Region.ready md ops listed = [] → I listed a w → Q .normal a w) :
    ∀ (fuel : Nat) (listed : Array Bool) (a : Act) (w : World), undone ops.size listed ≤ fuel → I listed a w → wpAny P md ops Q fuel listed a w
  | 0, listed, a, w, hf, hI => by
    have hr : Region.ready md ops listed = [] := by
      cases h : Region.ready md ops listed with
      | nil => rfl
      | cons i r =>
        have hm : i ∈ Region.ready md ops listed := by rw [h]; simp
        obtain ⟨h1, h2⟩ := ready_mem hm
        have := undone_step h1 h2
        omega
    exact ⟨hr, hdone listed a w hr hI⟩
  | fuel + 1, listed, a, w, hf, hI => by
    refine ⟨fun hr => hdone listed a w hr hI, fun i hi => ?_⟩
    obtain ⟨h1, h2⟩ := ready_mem hi
    have := undone_step h1 h2
    exact wpOp_mono (fun a w h => wpAny_inv I hstep hdone fuel _ a w (by omega) h) (hstep listed a w i hi hI)

end Go.Proofs.Ytckfdbjjjgfbfaa

namespace Go.Proofs.Ytckfdbjjjgfbfaa
set_option linter.unusedVariables false
set_option linter.unusedSimpArgs false
open Go.RowKit

def u8V (x : Nat) : Value := .int .u8 (x : Int)

/-- A row of bytes, wherever it lies. -/
def RowB (w : World) (a : Option Addr) (L : List Nat) : Prop :=
  (∀ i, i < L.length → L.getD i 0 < 256) ∧ (0 < L.length → ∃ g o, a = some ⟨g, o, none⟩ ∧ g < w.heap.size ∧ ∀ i, i < L.length → w.cell? ⟨g, o + i, none⟩ = some (u8V (L.getD i 0)))

/-- A row of bytes in memory of its own, from block 'base' on. -/
def OwnB (w : World) (base : Nat) (v : Value) (L : List Nat) : Prop := (∀ i, i < L.length → L.getD i 0 < 256) ∧ w.ownsRow base 5 1 v L.length (L.map u8V)

theorem addrB (g j : Nat) : (⟨g, 0, none⟩ : Addr).add j = ⟨g, j, none⟩ := by
  unfold Addr.add; split <;> simp_all

theorem OwnB.len {w : World} {base : Nat} {v : Value} {L : List Nat} (h : OwnB w base v L) : ∃ a cap, v = .slice a L.length cap := by
  rcases h.2.2 with ⟨rfl, h0⟩ | ⟨g, cap, _, rfl, _⟩
  · exact ⟨none, 0, by rw [h0]⟩
  · exact ⟨_, _, rfl⟩

theorem OwnB.row {w : World} {base : Nat} {a : Option Addr} {n cap : Nat} {L : List Nat} (h : OwnB w base (.slice a n cap) L) : n = L.length ∧ RowB w a L := by
  have h' := h.2
  rcases h.2.2 with ⟨hv, h0⟩ | ⟨g, cp, cur, hv, hb, hg, h1, h2, h3, _⟩
  · simp only [Value.slice.injEq] at hv
    exact ⟨by omega, h.1, fun hl => by omega⟩
  · simp only [Value.slice.injEq] at hv
    obtain ⟨rfl, rfl, rfl⟩ := hv
    refine ⟨rfl, h.1, fun _ => ⟨g, 0, rfl, (Array.getElem?_eq_some_iff.1 hg).1, fun i hi => ?_⟩⟩
    have := World.ownsRow.cells h' (g := g) rfl i (u8V (L.getD i 0)) (by simp [List.getD, hi])
    rw [addrB] at this
    rwa [Nat.zero_add]

theorem OwnB.below {w w' : World} {base : Nat} {v : Value} {L : List Nat} (h : OwnB w base v L) (hb : Below w.heap.size w w') : OwnB w' base v L := by
  refine ⟨h.1, World.ownsRow.kept h.2 (row := none) ⟨hb.os, hb.tape, hb.output, hb.size, fun i hi _ => hb.block i hi⟩ ?_⟩
  cases v.ownBlock with
  | none => exact .inl rfl
  | some g => exact .inr (by simp)

theorem OwnB.drewN {w : World} {base : Nat} {v : Value} {L : List Nat} (h : OwnB w base v L) (k : Nat) : OwnB (w.drewN k) base v L := h

theorem RowB.below {w w' : World} {a : Option Addr} {L : List Nat} (h : RowB w a L) (hb : Below w.heap.size w w') : RowB w' a L := by
  refine ⟨h.1, fun hl => ?_⟩
  obtain ⟨g, o, rfl, hg, hc⟩ := h.2 hl
  exact ⟨g, o, rfl, Nat.lt_of_lt_of_le hg hb.size, fun i hi => (hb.cell (p := ⟨g, o + i, none⟩) hg).trans (hc i hi)⟩

theorem RowB.drewN {w : World} {a : Option Addr} {L : List Nat} (h : RowB w a L) (k : Nat) : RowB (w.drewN k) a L := h

theorem infoU8 : (Try.prog.info? 5).map (fun i => (i.zero, i.size, i.bytes)) = some (some (.int .u8 0), 1, 1) := by kernel_rfl

theorem madeOne (v : Value) (n : Nat) : madeCells #[v] n = (List.replicate n v).toArray := by
  apply Array.ext
  · simp [madeCells]
  · intro i h1 h2
    simp [madeCells, Nat.mod_one]

set_option maxRecDepth 100000 in
theorem makeB (d : Nat) (h : d ≤ 1048576) (w : World) : (Instr.makeSlice 22 (.int .i64 (d : Int)) (.int .i64 (d : Int))).run Try.prog w =
    .ok (.slice (some ⟨w.heap.size, 0, none⟩) d d) (w.alloc (.cells (List.replicate d (Value.int .u8 0)).toArray 5)) := by
  obtain ⟨i0, hi, hz0, hz1, hz2⟩ := info_parts infoU8
  have hr := run_make (P := Try.prog) w 22 5 i0 (.int .u8 0) Try.underlying22 hi hz0 .i64 .i64 d d (by omega) (by omega) (by rw [hz2]; omega) (by omega)
  simp only [Int.toNat_natCast] at hr
  rw [hr, hz1, Nat.mul_one]
  congr 3
  exact madeOne _ _

end Go.Proofs.Ytckfdbjjjgfbfaa

namespace Go.Proofs.Ytckfdbjjjgfbfaa
set_option linter.unusedVariables false
set_option linter.unusedSimpArgs false
open Go.RowKit

theorem OwnB.base {w : World} {b b' : Nat} {v : Value} {L : List Nat} (h : OwnB w b v L) (hb : b' ≤ b) : OwnB w b' v L := by
  refine ⟨h.1, h.2.1, ?_⟩
  rcases h.2.2 with hn | ⟨g, cap, cur, hv, hg, rest⟩
  · exact .inl hn
  · exact .inr ⟨g, cap, cur, hv, Nat.le_trans hb hg, rest⟩

theorem OwnB.cells {w : World} {base : Nat} {v : Value} {L : List Nat} (h : OwnB w base v L) (hl : 0 < L.length) : ∃ g cap, v = .slice (some ⟨g, 0, none⟩) L.length cap ∧ ∀ j u, (L.map u8V)[j]? = some u → w.cell? ((⟨g, 0, none⟩ : Addr).add j) = some u := by
  have h' := h.2
  rcases h.2.2 with ⟨_, h0⟩ | ⟨g, cap, cur, rfl, _⟩
  · omega
  · exact ⟨g, cap, rfl, World.ownsRow.cells h' (g := g) rfl⟩

theorem u8V_one (L : List Nat) : ∀ u ∈ L.map u8V, u.oneCell' = true := by
  intro u hu
  obtain ⟨x, _, rfl⟩ := List.mem_map.1 hu
  rfl

theorem RowB.byte' {w : World} {a : Option Addr} {L : List Nat} (h : RowB w a L) (i : Nat) : L.getD i 0 < 256 := by
  by_cases hi : i < L.length
  · exact h.1 i hi
  · simp [List.getD, List.getElem?_eq_none (by omega : L.length ≤ i)]

theorem ownB_ne {w w' : World} {base g : Nat} {v : Value} {L : List Nat} (h : OwnB w base v L) (hg : w.grownBy w' (some g)) (hne : ∀ k, v.ownBlock = some k → k ≠ g) : OwnB w' base v L := by
  refine ⟨h.1, World.ownsRow.kept h.2 hg ?_⟩
  cases hv : v.ownBlock with
  | none => exact .inl rfl
  | some k => exact .inr (by simpa using hne k hv)

theorem ownNil (w : World) (B : Nat) : OwnB w B (.slice none 0 0) [] := ⟨fun i hi => by simp at hi, World.ownsRow_nil _ _ _ _⟩

theorem bstep {w a b : World} (h : Below w.heap.size w a) (k : Below a.heap.size a b) : Below w.heap.size w b := h.trans (k.mono h.size)

/-- A cell of an older block, as it was. -/
theorem cellKept {w w1 : World} {g o : Nat} {v : Value} (hb : Below w.heap.size w w1) (h : w.cell? ⟨g, o, none⟩ = some v) (hg : g < w.heap.size) : w1.cell? ⟨g, o, none⟩ = some v := by
  rw [hb.cell (p := ⟨g, o, none⟩) hg]; exact h

theorem emptyOwn {base B : Nat} (w : World) (hB : B = w.heap.size) (hb : base ≤ w.heap.size) : (w.alloc (.cells #[] 5)).ownsRow base 5 1 (.slice (some ⟨B, 0, none⟩) 0 0) 0 [] := by
  subst hB; exact World.ownsRow_made w #[] 0 hb (by decide) rfl

end Go.Proofs.Ytckfdbjjjgfbfaa

namespace Go.Proofs.Ytckfdbjjjgfbfaa
set_option linter.unusedVariables false
set_option linter.unusedSimpArgs false
open Go.RowKit

structure Span (lo hi : Nat) (w w' : World) : Prop where
  os : w'.os = w.os
  tape : w'.tape = w.tape
  output : w'.output = w.output
  size : w.heap.size ≤ w'.heap.size
  block : ∀ i, i < w.heap.size → i < lo ∨ hi ≤ i → w'.heap[i]? = w.heap[i]?

theorem Span.of_grown {w w' : World} {lo hi g : Nat} (h : w.grownBy w' (some g)) (h1 : lo ≤ g) (h2 : g < hi) : Span lo hi w w' :=
  ⟨h.os, h.tape, h.output, h.size, fun i hi' hd => h.block i hi' (by intro e; simp only [Option.some.injEq] at e; omega)⟩

theorem Span.of_below {w w' : World} (lo hi : Nat) (h : Below w.heap.size w w') : Span lo hi w w' :=
  ⟨h.os, h.tape, h.output, h.size, fun i hi' _ => h.block i hi'⟩

theorem Span.trans {lo hi : Nat} {a b c : World} (h : Span lo hi a b) (k : Span lo hi b c) : Span lo hi a c :=
  ⟨k.os.trans h.os, k.tape.trans h.tape, k.output.trans h.output, Nat.le_trans h.size k.size, fun i hi' hd => (k.block i (Nat.lt_of_lt_of_le hi' h.size) hd).trans (h.block i hi' hd)⟩

theorem Span.wide {lo hi lo' hi' : Nat} {a b : World} (h : Span lo hi a b) (h1 : lo' ≤ lo) (h2 : hi ≤ hi') : Span lo' hi' a b :=
  ⟨h.os, h.tape, h.output, h.size, fun i hi' hd => h.block i hi' (by omega)⟩

theorem Span.below {lo hi n : Nat} {a b : World} (h : Span lo hi a b) (h1 : n ≤ lo) (h2 : n ≤ a.heap.size) : Below n a b :=
  ⟨h.os, h.tape, h.output, h.size, fun i hi' => h.block i (by omega) (.inl (by omega))⟩

theorem Span.set (w : World) (B k : Nat) (v : Value) : Span B (B + 1) w (w.setCell ⟨B, k, none⟩ v) :=
  ⟨rfl, rfl, rfl, by simp, fun i _ hd => Below.heap_setCell _ _ _ _ (by show i ≠ B; omega)⟩

/-- A box of cells. -/
def BoxN (W : World) (B : Nat) (t : TypeId) (cs : Array Value) : Prop := W.heap[B]? = some (.cells cs t (0, 0))

theorem BoxN.lt {W : World} {B : Nat} {t : TypeId} {cs : Array Value} (h : BoxN W B t cs) : B < W.heap.size := (Array.getElem?_eq_some_iff.1 h).1
theorem BoxN.cell {W : World} {B : Nat} {t : TypeId} {cs : Array Value} (h : BoxN W B t cs) (i : Nat) (v : Value) (hv : cs[i]? = some v) : W.cell? ⟨B, i, none⟩ = some v := by
  simp [World.cell?, show W.heap[B]? = _ from h, hv]
theorem BoxN.frozen {W : World} {B : Nat} {t : TypeId} {cs : Array Value} (h : BoxN W B t cs) (i : Nat) : W.frozen? ⟨B, i, none⟩ = false := by
  simp [World.frozen?, show W.heap[B]? = _ from h]
theorem BoxN.new (W : World) (t : TypeId) (cs : Array Value) : BoxN (W.alloc (.cells cs t)) W.heap.size t cs := World.alloc_heap_new W _
theorem BoxN.below {w w1 : World} {B : Nat} {t : TypeId} {cs : Array Value} (h : BoxN w B t cs) (hb : Below w.heap.size w w1) : BoxN w1 B t cs := (hb.block B h.lt).trans h
theorem BoxN.span {w w1 : World} {lo hi B : Nat} {t : TypeId} {cs : Array Value} (h : BoxN w B t cs) (hs : Span lo hi w w1) (hd : B < lo ∨ hi ≤ B) : BoxN w1 B t cs := (hs.block B h.lt hd).trans h
theorem BoxN.set {W : World} {B : Nat} {t : TypeId} {cs : Array Value} (h : BoxN W B t cs) (i : Nat) (v : Value) : BoxN (W.setCell ⟨B, i, none⟩ v) B t (cs.setIfInBounds i v) := heap_setCell_same W B i cs t v h
theorem BoxN.drew {W : World} {B : Nat} {t : TypeId} {cs : Array Value} (h : BoxN W B t cs) : BoxN W.drew B t cs := h
theorem boxN_of {W : World} {B : Nat} {t : TypeId} {v : Value} (h : Boxed W B t v) : BoxN W B t #[v] := h

/-- A row of bytes of its own, in the blocks from lo up to hi. -/
def SegB (w : World) (lo hi : Nat) (v : Value) (L : List Nat) : Prop := OwnB w lo v L ∧ ∀ k, v.ownBlock = some k → k < hi

theorem SegB.of {w : World} {lo : Nat} {v : Value} {L : List Nat} (h : OwnB w lo v L) : SegB w lo w.heap.size v L := ⟨h, fun k ek => ((World.ownsRow.lt h.2) k ek).2⟩
theorem SegB.below {w w' : World} {lo hi : Nat} {v : Value} {L : List Nat} (h : SegB w lo hi v L) (hb : Below w.heap.size w w') : SegB w' lo hi v L := ⟨h.1.below hb, h.2⟩
theorem SegB.drew {w : World} {lo hi : Nat} {v : Value} {L : List Nat} (h : SegB w lo hi v L) : SegB w.drew lo hi v L := h
theorem SegB.span {w w' : World} {lo hi lo' hi' : Nat} {v : Value} {L : List Nat} (h : SegB w lo hi v L) (hs : Span lo' hi' w w') (hd : hi ≤ lo' ∨ hi' ≤ lo) : SegB w' lo hi v L := by
  refine ⟨⟨h.1.1, ?_⟩, h.2⟩
  have ho := h.1.2
  rcases ho.2 with hn | ⟨g, cap, cur, hv, hb, hg, hrest⟩
  · exact ⟨ho.1, .inl hn⟩
  · have hgl : g < hi := h.2 g (by rw [hv]; rfl)
    refine ⟨ho.1, .inr ⟨g, cap, cur, hv, hb, ?_, hrest⟩⟩
    rw [hs.block g (Array.getElem?_eq_some_iff.1 hg).1 (by omega)]
    exact hg

theorem SegB.len {w : World} {lo hi : Nat} {v : Value} {L : List Nat} (h : SegB w lo hi v L) : ∃ a cap, v = .slice a L.length cap ∧ L.length ≤ cap := by
  rcases h.1.2.2 with ⟨rfl, h0⟩ | ⟨g, cap, cur, rfl, hb, hg, h1, _⟩
  · exact ⟨none, 0, by rw [h0], by omega⟩
  · exact ⟨_, _, rfl, h1⟩

theorem SegB.row {w : World} {lo hi : Nat} {a : Option Addr} {n cap : Nat} {L : List Nat} (h : SegB w lo hi (.slice a n cap) L) : RowB w a L := h.1.row.2

end Go.Proofs.Ytckfdbjjjgfbfaa
