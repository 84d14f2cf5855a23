/-
  Contracts over the program: the model's operation without an operand (l06Imp).
-/
import Derived.Test.YtblchdmemhhcbaaStepB
namespace Go.Proofs.Ytblchdmemhhcbaa
set_option linter.unusedVariables false
set_option linter.unusedSimpArgs false
open Go.RowKit

abbrev set6 (W : World) (B : Nat) (v5 v6 v7 v8 v9 v10 : Value) : World := (((((W.setCell ⟨B, 5, none⟩ v5).setCell ⟨B, 6, none⟩ v6).setCell ⟨B, 7, none⟩ v7).setCell ⟨B, 8, none⟩ v8).setCell ⟨B, 9, none⟩ v9).setCell ⟨B, 10, none⟩ v10

theorem six_set {W : World} {B : Nat} {t : TypeId} {a0 a1 a2 a3 a4 a5 a6 a7 a8 a9 a10 : Value} (h : BoxN W B t #[a0, a1, a2, a3, a4, a5, a6, a7, a8, a9, a10]) (v5 v6 v7 v8 v9 v10 : Value) : BoxN (set6 W B v5 v6 v7 v8 v9 v10) B t #[a0, a1, a2, a3, a4, v5, v6, v7, v8, v9, v10] := by
  have r : BoxN _ B t #[a0, a1, a2, a3, a4, v5, a6, a7, a8, a9, a10] := h.set 5 v5
  have r : BoxN _ B t #[a0, a1, a2, a3, a4, v5, v6, a7, a8, a9, a10] := r.set 6 v6
  have r : BoxN _ B t #[a0, a1, a2, a3, a4, v5, v6, v7, a8, a9, a10] := r.set 7 v7
  have r : BoxN _ B t #[a0, a1, a2, a3, a4, v5, v6, v7, v8, a9, a10] := r.set 8 v8
  have r : BoxN _ B t #[a0, a1, a2, a3, a4, v5, v6, v7, v8, v9, a10] := r.set 9 v9
  exact r.set 10 v10

theorem six_other {W : World} {B B' : Nat} {t : TypeId} {cs : Array Value} (h : BoxN W B' t cs) (hn : B' ≠ B) (v5 v6 v7 v8 v9 v10 : Value) : BoxN (set6 W B v5 v6 v7 v8 v9 v10) B' t cs := by
  have d : B' < B ∨ B + 1 ≤ B' := by omega
  exact (((((h.span (Span.set _ B 5 v5) d).span (Span.set _ B 6 v6) d).span (Span.set _ B 7 v7) d).span (Span.set _ B 8 v8) d).span (Span.set _ B 9 v9) d).span (Span.set _ B 10 v10) d

theorem six_below {w W : World} {n B : Nat} (h : Below n w W) (hn : n ≤ B) (v5 v6 v7 v8 v9 v10 : Value) : Below n w (set6 W B v5 v6 v7 v8 v9 v10) :=
  (((((h.setCell hn _).setCell hn _).setCell hn _).setCell hn _).setCell hn _).setCell hn _

/-- Behind a call that came behind six flags' stores. -/
theorem six_call {w W w2 : World} {n B B' : Nat} {t t' : TypeId} {a0 a1 a2 a3 a4 a5 a6 a7 a8 a9 a10 v5 v6 v7 v8 v9 v10 : Value} {zs : Array Value} (hb : Below (set6 W B v5 v6 v7 v8 v9 v10).heap.size (set6 W B v5 v6 v7 v8 v9 v10) w2)
    (h : BoxN W B t #[a0, a1, a2, a3, a4, a5, a6, a7, a8, a9, a10] ∧ BoxN W B' t' zs ∧ Below n w W) (hne : B' ≠ B) (hn : n ≤ B) :
    BoxN w2 B t #[a0, a1, a2, a3, a4, v5, v6, v7, v8, v9, v10] ∧ BoxN w2 B' t' zs ∧ Below n w w2 := by
  refine ⟨(six_set h.1 v5 v6 v7 v8 v9 v10).below hb, (six_other h.2.1 hne v5 v6 v7 v8 v9 v10).below hb, (six_below h.2.2 hn v5 v6 v7 v8 v9 v10).trans (hb.mono ?_)⟩
  have := h.1.lt
  simp
  omega

end Go.Proofs.Ytblchdmemhhcbaa
