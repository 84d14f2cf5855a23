/-
  Contracts over the program: the model's operations on a place (l06Data).
-/
import Derived.Test.YtblchdmemhhcbaaQSStepF
import Derived.WalkKit
import Derived.Lib.Hide
import Derived.Test.YtblchdmemhhcbaaProg
import Derived.StillTailTactics
import Derived.Deep.Cut
import Derived.Deep.RegionWith
namespace Go.Proofs.Ytblchdmemhhcbaa
set_option linter.unusedVariables false
set_option linter.unusedSimpArgs false
open Go.RowKit

theorem push_at (F : Nat → Prop) (B : Nat) (b : BusN) (c : CpuN) (hc : c.ok) (pc : Nat) (hpc : pc < 65536) (brk : Bool) (vec : Nat) (hvec : vec < 65536) (hf : b.fit 20) (w : World) (hF : ∀ i, w.heap.size ≤ i → F i) (h : BusAt w F B b) (x y : Int) (hx : x = (pc : Int)) (hy : y = (vec : Int)) {r : CpuN × BusN} (hr : pushN b c pc brk vec = r) :
    Calls Try.prog 22 #[.pointer (some ⟨B, 0, none⟩), cpuV c, .int .i64 x, .bool brk, .int .i64 y] w fun e w' => e = .returned (cpuV r.1) ∧ BusAt w' F B r.2 ∧ Turn F w w' := by
  subst hr
  subst hx
  subst hy
  exact push_any F B b c hc pc hpc brk vec hvec hf w hF h

end Go.Proofs.Ytblchdmemhhcbaa

namespace Go.Proofs.Ytblchdmemhhcbaa
set_option linter.unusedVariables false
set_option linter.unusedSimpArgs false
open Go.RowKit

abbrev set11 (W : World) (B : Nat) (v0 v1 v2 v3 v4 v5 v6 v7 v8 v9 v10 : Value) : World := set6 (((((W.setCell ⟨B, 0, none⟩ v0).setCell ⟨B, 1, none⟩ v1).setCell ⟨B, 2, none⟩ v2).setCell ⟨B, 3, none⟩ v3).setCell ⟨B, 4, none⟩ v4) B v5 v6 v7 v8 v9 v10

theorem eleven_set {W : World} {B : Nat} {t : TypeId} {a0 a1 a2 a3 a4 a5 a6 a7 a8 a9 a10 : Value} (h : BoxN W B t #[a0, a1, a2, a3, a4, a5, a6, a7, a8, a9, a10]) (v0 v1 v2 v3 v4 v5 v6 v7 v8 v9 v10 : Value) : BoxN (set11 W B v0 v1 v2 v3 v4 v5 v6 v7 v8 v9 v10) B t #[v0, v1, v2, v3, v4, v5, v6, v7, v8, v9, v10] := by
  have r : BoxN _ B t #[v0, a1, a2, a3, a4, a5, a6, a7, a8, a9, a10] := h.set 0 v0
  have r : BoxN _ B t #[v0, v1, a2, a3, a4, a5, a6, a7, a8, a9, a10] := r.set 1 v1
  have r : BoxN _ B t #[v0, v1, v2, a3, a4, a5, a6, a7, a8, a9, a10] := r.set 2 v2
  have r : BoxN _ B t #[v0, v1, v2, v3, a4, a5, a6, a7, a8, a9, a10] := r.set 3 v3
  have r : BoxN _ B t #[v0, v1, v2, v3, v4, a5, a6, a7, a8, a9, a10] := r.set 4 v4
  exact six_set r v5 v6 v7 v8 v9 v10

theorem eleven_other {W : World} {B B' : Nat} {t : TypeId} {cs : Array Value} (h : BoxN W B' t cs) (hn : B' ≠ B) (v0 v1 v2 v3 v4 v5 v6 v7 v8 v9 v10 : Value) : BoxN (set11 W B v0 v1 v2 v3 v4 v5 v6 v7 v8 v9 v10) B' t cs := by
  have d : B' < B ∨ B + 1 ≤ B' := by omega
  exact six_other (((((h.span (Span.set _ B 0 v0) d).span (Span.set _ B 1 v1) d).span (Span.set _ B 2 v2) d).span (Span.set _ B 3 v3) d).span (Span.set _ B 4 v4) d) hn v5 v6 v7 v8 v9 v10

theorem Sit.eleven {F : Nat → Prop} {w W : World} {k B : Nat} {b : BusN} (s : Sit F w k B W b) {n : Nat} (v0 v1 v2 v3 v4 v5 v6 v7 v8 v9 v10 : Value) (h1 : w.heap.size ≤ n) (h2 : n < w.heap.size + k) : Sit F w k B (set11 W n v0 v1 v2 v3 v4 v5 v6 v7 v8 v9 v10) b :=
  (((((s.set v0 h1 h2).set v1 h1 h2).set v2 h1 h2).set v3 h1 h2).set v4 h1 h2).six v5 v6 v7 v8 v9 v10 h1 h2

end Go.Proofs.Ytblchdmemhhcbaa
