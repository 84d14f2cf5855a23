/-
  Contracts over the program: the model's operation without an operand (l06Imp).
-/
import Derived.Test.YtblchdmemhhcbaaQSStepA
namespace Go.Proofs.Ytblchdmemhhcbaa
set_option linter.unusedVariables false
set_option linter.unusedSimpArgs false
open Go.RowKit

theorem u8_of (x : Int) : IntKind.u8.wrap x = x % 256 := by simp [IntKind.wrap, IntKind.bits, IntKind.signed]

end Go.Proofs.Ytblchdmemhhcbaa

namespace Go.Proofs.Ytblchdmemhhcbaa
set_option linter.unusedVariables false
set_option linter.unusedSimpArgs false
open Go.RowKit

abbrev set6 (W : World) (B : Nat) (v5 v6 v7 v8 v9 v10 : Value) : World := (((((W.setCell ⟨B, 5, none⟩ v5).setCell ⟨B, 6, none⟩ v6).setCell ⟨B, 7, none⟩ v7).setCell ⟨B, 8, none⟩ v8).setCell ⟨B, 9, none⟩ v9).setCell ⟨B, 10, none⟩ v10

theorem six_set {W : World} {B : Nat} {t : TypeId} {a0 a1 a2 a3 a4 a5 a6 a7 a8 a9 a10 : Value} (h : BoxN W B t #[a0, a1, a2, a3, a4, a5, a6, a7, a8, a9, a10]) (v5 v6 v7 v8 v9 v10 : Value) : BoxN (set6 W B v5 v6 v7 v8 v9 v10) B t #[a0, a1, a2, a3, a4, v5, v6, v7, v8, v9, v10] := by
  have r : BoxN _ B t #[a0, a1, a2, a3, a4, v5, a6, a7, a8, a9, a10] := h.set 5 v5
  have r : BoxN _ B t #[a0, a1, a2, a3, a4, v5, v6, a7, a8, a9, a10] := r.set 6 v6
  have r : BoxN _ B t #[a0, a1, a2, a3, a4, v5, v6, v7, a8, a9, a10] := r.set 7 v7
  have r : BoxN _ B t #[a0, a1, a2, a3, a4, v5, v6, v7, v8, a9, a10] := r.set 8 v8
  have r : BoxN _ B t #[a0, a1, a2, a3, a4, v5, v6, v7, v8, v9, a10] := r.set 9 v9
  exact r.set 10 v10

theorem six_other {W : World} {B B' : Nat} {t : TypeId} {cs : Array Value} (h : BoxN W B' t cs) (hn : B' ≠ B) (v5 v6 v7 v8 v9 v10 : Value) : BoxN (set6 W B v5 v6 v7 v8 v9 v10) B' t cs := by
  have d : B' < B ∨ B + 1 ≤ B' := by omega
  exact (((((h.span (Span.set _ B 5 v5) d).span (Span.set _ B 6 v6) d).span (Span.set _ B 7 v7) d).span (Span.set _ B 8 v8) d).span (Span.set _ B 9 v9) d).span (Span.set _ B 10 v10) d

end Go.Proofs.Ytblchdmemhhcbaa
