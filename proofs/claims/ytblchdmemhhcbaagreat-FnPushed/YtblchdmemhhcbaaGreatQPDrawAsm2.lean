/-
  Contracts over the program: what DrawNameOf, DrawShowOp, DrawListing and DrawReadOp tell: some byte, some bytes or a text, and some address.
-/
import Derived.Test.YtblchdmemhhcbaaGreatQSDrawCpu
import Derived.Deep.RegionHeld3
namespace Go.Proofs.YtblchdmemhhcbaaGreat
set_option linter.unusedVariables false
set_option linter.unusedSimpArgs false
open Go.RowKit

theorem OwnB.cap {w : World} {base : Nat} {a : Option Addr} {n c : Nat} {L : List Nat} (h : OwnB w base (.slice a n c) L) : n ≤ c := by
  rcases h.2.2 with ⟨hv, _⟩ | ⟨g, cp, cur, hv, _, _, h1, _⟩
  · simp only [Value.slice.injEq] at hv; omega
  · simp only [Value.slice.injEq] at hv; omega

theorem RowB.grown {w w' : World} {a : Option Addr} {L : List Nat} {base B : Nat} {c : Nat} (h : OwnB w base (.slice a L.length c) L) (hg : w.grownBy w' (some B)) (hB : B < base) : RowB w' a L := (h.grown hg hB).row.2

end Go.Proofs.YtblchdmemhhcbaaGreat
