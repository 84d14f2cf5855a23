/-
  Contracts over the program: what DrawNameOf, DrawShowOp, DrawListing and DrawReadOp tell: some byte, some bytes or a text, and some address.
-/
import Derived.Test.YtppkcljpfjdlnaaDrawAsm
import Derived.Deep.RegionHeld3
namespace Go.Proofs.Ytppkcljpfjdlnaa
set_option linter.unusedVariables false
set_option linter.unusedSimpArgs false
open Go.RowKit

/-- Bytes and an address that are drawn: whichever they are. -/
def DrewRow (w : World) (e : Ending) (w' : World) : Prop :=
  ∃ (a : Option Addr) (c : Nat) (L : List Nat) (pc : Nat), L.length ≤ c ∧ L.length ≤ 1048576 ∧ pc < 65536 ∧ e = .returned (.tuple #[.slice a L.length c, .int .u16 pc]) ∧ RowB w' a L ∧ Below w.heap.size w w'

/-- A text and an address that are drawn. -/
def DrewText (w : World) (e : Ending) (w' : World) : Prop :=
  ∃ (t : ByteArray) (pc : Nat), t.size ≤ 1048576 ∧ pc < 65536 ∧ e = .returned (.tuple #[.string t, .int .u16 pc]) ∧ Below w.heap.size w w'

def DrewU8 (w : World) (e : Ending) (w' : World) : Prop := ∃ x : Nat, x < 256 ∧ e = .returned (.int .u8 x) ∧ Below w.heap.size w w'

theorem OwnB.cap {w : World} {base : Nat} {a : Option Addr} {n c : Nat} {L : List Nat} (h : OwnB w base (.slice a n c) L) : n ≤ c := by
  rcases h.2.2 with ⟨hv, _⟩ | ⟨g, cp, cur, hv, _, _, h1, _⟩
  · simp only [Value.slice.injEq] at hv; omega
  · simp only [Value.slice.injEq] at hv; omega

theorem RowB.take {w : World} {a : Option Addr} {L : List Nat} (h : RowB w a L) (k : Nat) (hk : k ≤ L.length) : RowB w a (L.take k) := by
  have hl : (L.take k).length = k := by simp; omega
  have hg : ∀ i, i < k → (L.take k).getD i 0 = L.getD i 0 := fun i hi => by simp [List.getD, List.getElem?_take, hi]
  refine ⟨fun i hi => ?_, fun h0 => ?_⟩
  · rw [hl] at hi; rw [hg i hi]; exact h.1 i (by omega)
  · rw [hl] at h0
    obtain ⟨g, o, rfl, hgl, hc⟩ := h.2 (by omega)
    refine ⟨g, o, rfl, hgl, fun i hi => ?_⟩
    rw [hl] at hi; rw [hg i hi]; exact hc i (by omega)

theorem RowB.grown {w w' : World} {a : Option Addr} {L : List Nat} {base B : Nat} {c : Nat} (h : OwnB w base (.slice a L.length c) L) (hg : w.grownBy w' (some B)) (hB : B < base) : RowB w' a L := (h.grown hg hB).row.2

theorem startBelow {n₀ : Nat} {w w1 w' : World} {B : Nat} {o : Obj} (e1 : w.alloc o = w1) (hB : B = w.heap.size) (hg : w1.grownBy w' (some B)) : Below w.heap.size w w' := by
  subst e1 hB
  exact ((Below.refl _ _).alloc (Nat.le_refl _) _).trans (grown_below hg (Nat.le_refl _) (by simp))

end Go.Proofs.Ytppkcljpfjdlnaa
