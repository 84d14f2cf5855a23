/-
  Contracts over the program: what DrawPackP tells: any flags, and any bool.
-/
import Derived.Test.YtddfgplgjjkdcaaDraw2
import Derived.Test.YtddfgplgjjkdcaaKeep
namespace Go.Proofs.Ytddfgplgjjkdcaa
open Go.RowKit

theorem six_set {w : World} {B C k : Nat} {a0 a1 a2 a3 a4 a5 : Value} (u : Value) (hne : C ≠ B) (h : w.cell? ⟨B, 0, none⟩ = some a0 ∧ w.cell? ⟨B, 1, none⟩ = some a1 ∧ w.cell? ⟨B, 2, none⟩ = some a2 ∧ w.cell? ⟨B, 3, none⟩ = some a3 ∧ w.cell? ⟨B, 4, none⟩ = some a4 ∧ w.cell? ⟨B, 5, none⟩ = some a5) : (w.setCell ⟨C, k, none⟩ u).cell? ⟨B, 0, none⟩ = some a0 ∧ (w.setCell ⟨C, k, none⟩ u).cell? ⟨B, 1, none⟩ = some a1 ∧ (w.setCell ⟨C, k, none⟩ u).cell? ⟨B, 2, none⟩ = some a2 ∧ (w.setCell ⟨C, k, none⟩ u).cell? ⟨B, 3, none⟩ = some a3 ∧ (w.setCell ⟨C, k, none⟩ u).cell? ⟨B, 4, none⟩ = some a4 ∧ (w.setCell ⟨C, k, none⟩ u).cell? ⟨B, 5, none⟩ = some a5 := by
  have hc : ∀ j, (w.setCell ⟨C, k, none⟩ u).cell? ⟨B, j, none⟩ = w.cell? ⟨B, j, none⟩ := fun j => World.cell?_setCell_far w ⟨C, k, none⟩ ⟨B, j, none⟩ u hne
  simp only [hc]
  exact h

theorem Drawn.drew {n₀ B : Nat} {a : Option Addr} {len cap : Nat} {z : List Int} {s : Nat × Int} {w : World} (h : Drawn n₀ B a len cap z s w) : Drawn n₀ B a len cap z s w.drew := ⟨h.1, h.2⟩

theorem keep6_drew {W : World} {B : Nat} {a0 a1 a2 a3 a4 a5 : Value} {t : TypeId} (h : W.heap[B]? = some (.cells #[a0, a1, a2, a3, a4, a5] t (0, 0))) : W.drew.heap[B]? = some (.cells #[a0, a1, a2, a3, a4, a5] t (0, 0)) := h

set_option maxRecDepth 100000 in
theorem drawPackP_any (n₀ : Nat) (a : Option Addr) (len cap : Nat) (z : List Int) (w : World) (hc : CodeRow n₀ w a len z) (hn : n₀ ≤ w.heap.size) :
    Calls Try.prog 19 #[.slice a len cap] w (DrewPack w) := by
  go_enter Try.func19, Try.ntmps19
  go_wp2_with fail
  have hc1 := hc.kept ((Below.refl _ _).alloc hn (.cells #[.bool false, .bool false, .bool false, .bool false, .bool false, .bool false] 25))
  have hst := hc1.start (cap := cap) (by simp; omega)
  refine (new_any n₀ a len cap z _ hc1).mono ?_
  rintro e w0 ⟨rfl, rfl⟩
  have R0 := Lib.hid (keep6_alloc (.cells #[.slice a len cap, .int .i64 0, .int .i64 (startH z len)] 54) (new6 w (t := 25) (a0 := .bool false) (a1 := .bool false) (a2 := .bool false) (a3 := .bool false) (a4 := .bool false) (a5 := .bool false)))
  have hne : w.heap.size ≠ w.heap.size + 1 := by omega
  have hB0 := ((Below.refl w.heap.size w).alloc (Nat.le_refl _) (.cells #[.bool false, .bool false, .bool false, .bool false, .bool false, .bool false] 25)).alloc (by simp) (.cells #[.slice a len cap, .int .i64 0, .int .i64 (startH z len)] 54)
  rw [World.size_alloc] at hst
  obtain ⟨W0, HW0⟩ : ∃ W, Hid (((w.alloc (.cells #[.bool false, .bool false, .bool false, .bool false, .bool false, .bool false] 25)).alloc (.cells #[.slice a len cap, .int .i64 0, .int .i64 (startH z len)] 54)) = W) := ⟨_, Lib.hid rfl⟩
  rw [HW0.out] at hst R0 hB0 ⊢
  clear HW0 hc1
  go_wp2_with fail
  refine (flags2_drawn n₀ _ a len cap z _ _ hst).mono ?_
  rintro e w1 ⟨n, v, d, i, zf, c, s, rfl, hd1, hg1⟩
  have R1 := Lib.hid (keep6_grown hg1 hne R0.out)
  have hB1 := hB0.trans (grown_below hg1 (by omega) hst.lt)
  have hlt := hd1.lt
  have hne1 : w1.heap.size ≠ w.heap.size + 1 := by omega
  have hdF := Drawn.drew (hd1.alloc (.cells #[.bool n, .bool v, .bool d, .bool i, .bool zf, .bool c] 25))
  have RF := Lib.hid (keep6_drew (keep6_alloc (.cells #[.bool n, .bool v, .bool d, .bool i, .bool zf, .bool c] 25) R1.out))
  have FF := Lib.hid (keep6_drew (new6 w1 (t := 25) (a0 := .bool n) (a1 := .bool v) (a2 := .bool d) (a3 := .bool i) (a4 := .bool zf) (a5 := .bool c)))
  have hS1 := (cells6 FF.out).2
  have hq : w.heap.size ≠ w1.heap.size := by omega
  go_wp2_with fail
  go_region_held3 (fun w' => w'.cell? ⟨w1.heap.size, 0, none⟩ = some (.bool n) ∧ w'.cell? ⟨w1.heap.size, 1, none⟩ = some (.bool v) ∧ w'.cell? ⟨w1.heap.size, 2, none⟩ = some (.bool d) ∧ w'.cell? ⟨w1.heap.size, 3, none⟩ = some (.bool i) ∧ w'.cell? ⟨w1.heap.size, 4, none⟩ = some (.bool zf) ∧ w'.cell? ⟨w1.heap.size, 5, none⟩ = some (.bool c)) (((try dsimp only); (repeat (first | (with_reducible exact hS1) | (with_reducible exact hS2) | (with_reducible refine six_set _ hq ?_)))))
    (first | (go_at_call 35; (with_reducible refine (once_drawn n₀ _ a len cap z _ _ _ hdF).mono ?_); rintro e w2 ⟨rfl, hd2, hg2⟩; have R2 := Lib.hid (keep6_grown hg2 hne RF.out); have F2 := Lib.hid (keep6_grown hg2 hne1 FF.out); obtain ⟨z2, d0, d1, d2, d3, d4, d5⟩ := cells6 R2.out; obtain ⟨f0, f1, f2, f3, f4, f5⟩ := free6 R2.out; have hS2 := (cells6 F2.out).2))
  have hB2 := (hB1.alloc hB1.size (.cells #[.bool n, .bool v, .bool d, .bool i, .bool zf, .bool c] 25)).drew.trans (grown_below hg2 (by omega) hdF.lt)
  go_wp2
  refine bodyPost_ret (v := .tuple #[.agg #[.bool n, .bool v, .bool d, .bool i, .bool zf, .bool c], .bool (belowV z len s 2 == 0)]) (by simp [results, Try.results19, go_sem, d0, d1, d2, d3, d4, d5]) rfl ⟨n, v, d, i, zf, c, _, rfl, ?_⟩
  exact (((((hB2.setCell (Nat.le_refl _) _).setCell (Nat.le_refl _) _).setCell (Nat.le_refl _) _).setCell (Nat.le_refl _) _).setCell (Nat.le_refl _) _).setCell (Nat.le_refl _) _

end Go.Proofs.Ytddfgplgjjkdcaa
