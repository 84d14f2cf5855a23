/-
  Contracts over the program: the model's operations on a place (l06Data).
-/
import Derived.Test.YtblchdmemhhcbaaStepG
import Derived.Test.YtblchdmemhhcbaaOpC
import Derived.StillTailTactics
import Derived.Deep.Cut
import Derived.Deep.RegionWith
namespace Go.Proofs.Ytblchdmemhhcbaa
set_option linter.unusedVariables false
set_option linter.unusedSimpArgs false
open Go.RowKit

theorem name_at (code : Nat) (h : code < 256) {i : Nat} (hi : opId code = i) (w : World) :
    Calls Try.prog 33 #[.int .u8 code] w fun e w' => e = .returned (.string (opTx i)) ∧ Below w.heap.size w w' := by
  subst hi
  exact specName_any code h w

theorem useL_PC (c : CpuN) (l : List UInt8) (m : Nat) : (useL c l m).PC = c.PC := by
  simp only [useL, CpuN.nz, apply_ite CpuN.PC, ite_self]

theorem chgB_lt (l : List UInt8) (m : Nat) (hm : m < 256) (cC : Bool) : chgB l m cC < 256 := by
  have h1 := mvR_bd (m : Int) true false (by omega) (by omega)
  have h2 := mvR_bd (m : Int) false false (by omega) (by omega)
  have h3 := mvR_bd (m : Int) true cC (by omega) (by omega)
  have h4 := mvR_bd (m : Int) false cC (by omega) (by omega)
  unfold chgB
  repeat' split
  all_goals omega

theorem storeL_lt (c : CpuN) (hc : c.ok) (l : List UInt8) : storeL c l < 256 := by
  obtain ⟨h1, h2, h3, h4, h5⟩ := hc
  unfold storeL
  repeat' split
  all_goals omega

theorem placeN_fit {b : BusN} {c : CpuN} {m k : Int} {j : Nat} (h : b.fit j) : (placeN b c m k).2.fit (j + 4) := by
  unfold placeN baseN
  dsimp only
  repeat' split
  all_goals
    first
    | exact (h.rd).mono (by omega)
    | exact (h.rd.rd).mono (by omega)
    | exact (h.rd.rd.rd).mono (by omega)
    | exact (h.rd.rd.rd.rd).mono (by omega)

theorem placeN_lt {b : BusN} {c : CpuN} {m k : Int} (hb : ∀ a, b.get a < 256) : (placeN b c m k).1 < 65536 := by
  have e1 : ∀ x a, (b.rd x).get a = b.get a := fun _ _ => rfl
  have e2 : ∀ x y a, ((b.rd x).rd y).get a = b.get a := fun _ _ _ => rfl
  have e3 : ∀ x y z a, (((b.rd x).rd y).rd z).get a = b.get a := fun _ _ _ _ => rfl
  have w1 : ∀ a a', word (b.get a) (b.get a') < 65536 := fun a a' => by have := hb a; have := hb a'; unfold word; omega
  unfold placeN baseN
  dsimp only
  repeat' split
  all_goals
    simp only [e1, e2, e3]
    first
    | exact Nat.lt_trans (hb _) (by omega)
    | exact w1 _ _
    | omega

theorem elevenC {W : World} {B : Nat} {t : TypeId} {a0 a1 a2 a3 a4 a5 a6 a7 a8 a9 a10 : Value} (h : BoxN W B t #[a0, a1, a2, a3, a4, a5, a6, a7, a8, a9, a10]) :
    W.cell? ⟨B, 0, none⟩ = some a0 ∧ W.cell? ⟨B, 1, none⟩ = some a1 ∧ W.cell? ⟨B, 2, none⟩ = some a2 ∧ W.cell? ⟨B, 3, none⟩ = some a3 ∧ W.cell? ⟨B, 4, none⟩ = some a4 ∧ W.cell? ⟨B, 5, none⟩ = some a5 ∧ W.cell? ⟨B, 6, none⟩ = some a6 ∧ W.cell? ⟨B, 7, none⟩ = some a7 ∧ W.cell? ⟨B, 8, none⟩ = some a8 ∧ W.cell? ⟨B, 9, none⟩ = some a9 ∧ W.cell? ⟨B, 10, none⟩ = some a10 :=
  ⟨h.cell 0 _ rfl, h.cell 1 _ rfl, h.cell 2 _ rfl, h.cell 3 _ rfl, h.cell 4 _ rfl, h.cell 5 _ rfl, h.cell 6 _ rfl, h.cell 7 _ rfl, h.cell 8 _ rfl, h.cell 9 _ rfl, h.cell 10 _ rfl⟩

abbrev set11 (W : World) (B : Nat) (v0 v1 v2 v3 v4 v5 v6 v7 v8 v9 v10 : Value) : World := set6 (((((W.setCell ⟨B, 0, none⟩ v0).setCell ⟨B, 1, none⟩ v1).setCell ⟨B, 2, none⟩ v2).setCell ⟨B, 3, none⟩ v3).setCell ⟨B, 4, none⟩ v4) B v5 v6 v7 v8 v9 v10

theorem eleven_set {W : World} {B : Nat} {t : TypeId} {a0 a1 a2 a3 a4 a5 a6 a7 a8 a9 a10 : Value} (h : BoxN W B t #[a0, a1, a2, a3, a4, a5, a6, a7, a8, a9, a10]) (v0 v1 v2 v3 v4 v5 v6 v7 v8 v9 v10 : Value) : BoxN (set11 W B v0 v1 v2 v3 v4 v5 v6 v7 v8 v9 v10) B t #[v0, v1, v2, v3, v4, v5, v6, v7, v8, v9, v10] := by
  have r : BoxN _ B t #[v0, a1, a2, a3, a4, a5, a6, a7, a8, a9, a10] := h.set 0 v0
  have r : BoxN _ B t #[v0, v1, a2, a3, a4, a5, a6, a7, a8, a9, a10] := r.set 1 v1
  have r : BoxN _ B t #[v0, v1, v2, a3, a4, a5, a6, a7, a8, a9, a10] := r.set 2 v2
  have r : BoxN _ B t #[v0, v1, v2, v3, a4, a5, a6, a7, a8, a9, a10] := r.set 3 v3
  have r : BoxN _ B t #[v0, v1, v2, v3, v4, a5, a6, a7, a8, a9, a10] := r.set 4 v4
  exact six_set r v5 v6 v7 v8 v9 v10

theorem eleven_other {W : World} {B B' : Nat} {t : TypeId} {cs : Array Value} (h : BoxN W B' t cs) (hn : B' ≠ B) (v0 v1 v2 v3 v4 v5 v6 v7 v8 v9 v10 : Value) : BoxN (set11 W B v0 v1 v2 v3 v4 v5 v6 v7 v8 v9 v10) B' t cs := by
  have d : B' < B ∨ B + 1 ≤ B' := by omega
  exact six_other (((((h.span (Span.set _ B 0 v0) d).span (Span.set _ B 1 v1) d).span (Span.set _ B 2 v2) d).span (Span.set _ B 3 v3) d).span (Span.set _ B 4 v4) d) hn v5 v6 v7 v8 v9 v10

theorem Sit.eleven {F : Nat → Prop} {w W : World} {k B : Nat} {b : BusN} (s : Sit F w k B W b) {n : Nat} (v0 v1 v2 v3 v4 v5 v6 v7 v8 v9 v10 : Value) (h1 : w.heap.size ≤ n) (h2 : n < w.heap.size + k) : Sit F w k B (set11 W n v0 v1 v2 v3 v4 v5 v6 v7 v8 v9 v10) b :=
  (((((s.set v0 h1 h2).set v1 h1 h2).set v2 h1 h2).set v3 h1 h2).set v4 h1 h2).six v5 v6 v7 v8 v9 v10 h1 h2

/-- A write beside a box that was laid just ahead of it. -/
theorem Sit.wrX {F : Nat → Prop} {w W : World} {k B : Nat} {b : BusN} (s : Sit F w k B W b) (t : TypeId) (cs : Array Value) (x y : Int) (a d : Nat) (hx : x = (a : Int)) (hy : y = (d : Int)) (ha : a < 200000) (hd : d < 256) (hf : b.fit 30) {b' : BusN} (hb' : b.put a d = b') :
    Calls Try.prog 38 #[.pointer (some ⟨B, 0, none⟩), .int .i64 x, .int .u8 y] (W.alloc (.cells cs t)) fun e w' => e = .returned (.tuple #[]) ∧ Went F w k B (W.alloc (.cells cs t)) w' b' ∧ BoxN w' W.heap.size t cs := by
  subst hx
  subst hy
  subst hb'
  refine (wr_any (fun i => Less F w.heap.size k i ∧ i ≠ W.heap.size) B b a d ha hd hf _ (fun i hi => ?_) ((s.bus.less (fun i hi hl => ⟨hl, by omega⟩)).alloc _)).mono ?_
  · rw [World.size_alloc] at hi
    exact ⟨s.hF i (by omega), by omega⟩
  · rintro e w' ⟨rfl, hb, ht⟩
    have s1 : Sit F w k B (W.alloc (.cells cs t)) b := s.below ((Below.refl _ _).alloc (Nat.le_refl _) _)
    exact ⟨rfl, s1.went (hb.less (fun _ _ hl => hl.1)) (ht.mono (fun _ _ hl => hl.1)), (BoxN.new W t cs).turn ht (fun hl => hl.2 rfl)⟩

end Go.Proofs.Ytblchdmemhhcbaa
