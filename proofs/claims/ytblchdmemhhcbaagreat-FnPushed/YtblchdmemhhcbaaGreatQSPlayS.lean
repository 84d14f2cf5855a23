/-
  Contracts over the program: what is played by an operation's kind (plays, step).
-/
import Derived.Test.YtblchdmemhhcbaaGreatQSPlayB
namespace Go.Proofs.YtblchdmemhhcbaaGreat
set_option linter.unusedVariables false
set_option linter.unusedSimpArgs false
open Go.RowKit

theorem thirteen {W : World} {B : Nat} {t : TypeId} {a0 a1 a2 a3 a4 a5 a6 a7 a8 a9 a10 a11 a12 : Value} (h : BoxN W B t #[a0, a1, a2, a3, a4, a5, a6, a7, a8, a9, a10, a11, a12]) :
    W.cell? ⟨B, 0, none⟩ = some a0 ∧ W.cell? ⟨B, 1, none⟩ = some a1 ∧ W.cell? ⟨B, 2, none⟩ = some a2 ∧ W.cell? ⟨B, 3, none⟩ = some a3 ∧ W.cell? ⟨B, 4, none⟩ = some a4 ∧ W.cell? ⟨B, 5, none⟩ = some a5 ∧ W.cell? ⟨B, 6, none⟩ = some a6 ∧ W.cell? ⟨B, 7, none⟩ = some a7 ∧ W.cell? ⟨B, 8, none⟩ = some a8 ∧ W.cell? ⟨B, 9, none⟩ = some a9 ∧ W.cell? ⟨B, 10, none⟩ = some a10 ∧ W.cell? ⟨B, 11, none⟩ = some a11 ∧ W.cell? ⟨B, 12, none⟩ = some a12 :=
  ⟨h.cell 0 _ rfl, h.cell 1 _ rfl, h.cell 2 _ rfl, h.cell 3 _ rfl, h.cell 4 _ rfl, h.cell 5 _ rfl, h.cell 6 _ rfl, h.cell 7 _ rfl, h.cell 8 _ rfl, h.cell 9 _ rfl, h.cell 10 _ rfl, h.cell 11 _ rfl, h.cell 12 _ rfl⟩

abbrev playsV : Value := .agg #[.nilFunc, .func (.func 108) #[] #[], .func (.func 109) #[] #[], .func (.func 110) #[] #[], .func (.func 111) #[] #[], .func (.func 112) #[] #[], .func (.func 113) #[] #[], .func (.func 114) #[] #[], .func (.func 115) #[] #[], .func (.func 116) #[] #[], .func (.func 117) #[] #[], .func (.func 118) #[] #[], .func (.func 119) #[] #[]]

theorem store_box {W : World} {B : Nat} {t : TypeId} {cs : Array Value} (h : BoxN W B t cs) (i : Nat) (u v : Value) (hu : cs[i]? = some u) (hv : v.oneCell' = true) : (store ⟨B, i, none⟩ v).run Tryz.prog W = .ok () (W.setCell ⟨B, i, none⟩ v) := by
  have c := h.cell i u hu
  have f := h.frozen i
  rw [run_store Tryz.prog W _ v _ hv]
  simp [stored, c, f]

set_option maxRecDepth 100000 in
theorem plays_any (w : World) : Calls Tryz.prog 76 #[] w fun e w' => e = .returned playsV ∧ Below w.heap.size w w' := by
  obtain ⟨W0, h0⟩ : ∃ r_, (w.alloc (.cells #[.nilFunc, .nilFunc, .nilFunc, .nilFunc, .nilFunc, .nilFunc, .nilFunc, .nilFunc, .nilFunc, .nilFunc, .nilFunc, .nilFunc, .nilFunc] 116)) = r_ := ⟨_, rfl⟩
  have b0 : BoxN W0 w.heap.size 116 #[.nilFunc, .nilFunc, .nilFunc, .nilFunc, .nilFunc, .nilFunc, .nilFunc, .nilFunc, .nilFunc, .nilFunc, .nilFunc, .nilFunc, .nilFunc] := by rw [← h0]; exact BoxN.new _ _ _
  have d0 : Below w.heap.size w W0 := by rw [← h0]; exact (Below.refl _ _).alloc (Nat.le_refl _) _
  obtain ⟨W1, h1⟩ : ∃ r_, W0.setCell ⟨w.heap.size, 0, none⟩ (.nilFunc) = r_ := ⟨_, rfl⟩
  have b1 : BoxN W1 w.heap.size 116 #[.nilFunc, .nilFunc, .nilFunc, .nilFunc, .nilFunc, .nilFunc, .nilFunc, .nilFunc, .nilFunc, .nilFunc, .nilFunc, .nilFunc, .nilFunc] := by rw [← h1]; exact b0.set 0 (.nilFunc)
  have d1 : Below w.heap.size w W1 := by rw [← h1]; exact d0.setCell (Nat.le_refl _) _
  obtain ⟨W2, h2⟩ : ∃ r_, W1.setCell ⟨w.heap.size, 1, none⟩ (.func (.func 108) #[] #[]) = r_ := ⟨_, rfl⟩
  have b2 : BoxN W2 w.heap.size 116 #[.nilFunc, .func (.func 108) #[] #[], .nilFunc, .nilFunc, .nilFunc, .nilFunc, .nilFunc, .nilFunc, .nilFunc, .nilFunc, .nilFunc, .nilFunc, .nilFunc] := by rw [← h2]; exact b1.set 1 (.func (.func 108) #[] #[])
  have d2 : Below w.heap.size w W2 := by rw [← h2]; exact d1.setCell (Nat.le_refl _) _
  have s1 := store_box b1 1 .nilFunc (.func (.func 108) #[] #[]) rfl rfl
  rw [h2] at s1
  obtain ⟨W3, h3⟩ : ∃ r_, W2.setCell ⟨w.heap.size, 2, none⟩ (.func (.func 109) #[] #[]) = r_ := ⟨_, rfl⟩
  have b3 : BoxN W3 w.heap.size 116 #[.nilFunc, .func (.func 108) #[] #[], .func (.func 109) #[] #[], .nilFunc, .nilFunc, .nilFunc, .nilFunc, .nilFunc, .nilFunc, .nilFunc, .nilFunc, .nilFunc, .nilFunc] := by rw [← h3]; exact b2.set 2 (.func (.func 109) #[] #[])
  have d3 : Below w.heap.size w W3 := by rw [← h3]; exact d2.setCell (Nat.le_refl _) _
  have s2 := store_box b2 2 .nilFunc (.func (.func 109) #[] #[]) rfl rfl
  rw [h3] at s2
  obtain ⟨W4, h4⟩ : ∃ r_, W3.setCell ⟨w.heap.size, 3, none⟩ (.func (.func 110) #[] #[]) = r_ := ⟨_, rfl⟩
  have b4 : BoxN W4 w.heap.size 116 #[.nilFunc, .func (.func 108) #[] #[], .func (.func 109) #[] #[], .func (.func 110) #[] #[], .nilFunc, .nilFunc, .nilFunc, .nilFunc, .nilFunc, .nilFunc, .nilFunc, .nilFunc, .nilFunc] := by rw [← h4]; exact b3.set 3 (.func (.func 110) #[] #[])
  have d4 : Below w.heap.size w W4 := by rw [← h4]; exact d3.setCell (Nat.le_refl _) _
  have s3 := store_box b3 3 .nilFunc (.func (.func 110) #[] #[]) rfl rfl
  rw [h4] at s3
  obtain ⟨W5, h5⟩ : ∃ r_, W4.setCell ⟨w.heap.size, 4, none⟩ (.func (.func 111) #[] #[]) = r_ := ⟨_, rfl⟩
  have b5 : BoxN W5 w.heap.size 116 #[.nilFunc, .func (.func 108) #[] #[], .func (.func 109) #[] #[], .func (.func 110) #[] #[], .func (.func 111) #[] #[], .nilFunc, .nilFunc, .nilFunc, .nilFunc, .nilFunc, .nilFunc, .nilFunc, .nilFunc] := by rw [← h5]; exact b4.set 4 (.func (.func 111) #[] #[])
  have d5 : Below w.heap.size w W5 := by rw [← h5]; exact d4.setCell (Nat.le_refl _) _
  have s4 := store_box b4 4 .nilFunc (.func (.func 111) #[] #[]) rfl rfl
  rw [h5] at s4
  obtain ⟨W6, h6⟩ : ∃ r_, W5.setCell ⟨w.heap.size, 5, none⟩ (.func (.func 112) #[] #[]) = r_ := ⟨_, rfl⟩
  have b6 : BoxN W6 w.heap.size 116 #[.nilFunc, .func (.func 108) #[] #[], .func (.func 109) #[] #[], .func (.func 110) #[] #[], .func (.func 111) #[] #[], .func (.func 112) #[] #[], .nilFunc, .nilFunc, .nilFunc, .nilFunc, .nilFunc, .nilFunc, .nilFunc] := by rw [← h6]; exact b5.set 5 (.func (.func 112) #[] #[])
  have d6 : Below w.heap.size w W6 := by rw [← h6]; exact d5.setCell (Nat.le_refl _) _
  have s5 := store_box b5 5 .nilFunc (.func (.func 112) #[] #[]) rfl rfl
  rw [h6] at s5
  obtain ⟨W7, h7⟩ : ∃ r_, W6.setCell ⟨w.heap.size, 6, none⟩ (.func (.func 113) #[] #[]) = r_ := ⟨_, rfl⟩
  have b7 : BoxN W7 w.heap.size 116 #[.nilFunc, .func (.func 108) #[] #[], .func (.func 109) #[] #[], .func (.func 110) #[] #[], .func (.func 111) #[] #[], .func (.func 112) #[] #[], .func (.func 113) #[] #[], .nilFunc, .nilFunc, .nilFunc, .nilFunc, .nilFunc, .nilFunc] := by rw [← h7]; exact b6.set 6 (.func (.func 113) #[] #[])
  have d7 : Below w.heap.size w W7 := by rw [← h7]; exact d6.setCell (Nat.le_refl _) _
  have s6 := store_box b6 6 .nilFunc (.func (.func 113) #[] #[]) rfl rfl
  rw [h7] at s6
  obtain ⟨W8, h8⟩ : ∃ r_, W7.setCell ⟨w.heap.size, 7, none⟩ (.func (.func 114) #[] #[]) = r_ := ⟨_, rfl⟩
  have b8 : BoxN W8 w.heap.size 116 #[.nilFunc, .func (.func 108) #[] #[], .func (.func 109) #[] #[], .func (.func 110) #[] #[], .func (.func 111) #[] #[], .func (.func 112) #[] #[], .func (.func 113) #[] #[], .func (.func 114) #[] #[], .nilFunc, .nilFunc, .nilFunc, .nilFunc, .nilFunc] := by rw [← h8]; exact b7.set 7 (.func (.func 114) #[] #[])
  have d8 : Below w.heap.size w W8 := by rw [← h8]; exact d7.setCell (Nat.le_refl _) _
  have s7 := store_box b7 7 .nilFunc (.func (.func 114) #[] #[]) rfl rfl
  rw [h8] at s7
  obtain ⟨W9, h9⟩ : ∃ r_, W8.setCell ⟨w.heap.size, 8, none⟩ (.func (.func 115) #[] #[]) = r_ := ⟨_, rfl⟩
  have b9 : BoxN W9 w.heap.size 116 #[.nilFunc, .func (.func 108) #[] #[], .func (.func 109) #[] #[], .func (.func 110) #[] #[], .func (.func 111) #[] #[], .func (.func 112) #[] #[], .func (.func 113) #[] #[], .func (.func 114) #[] #[], .func (.func 115) #[] #[], .nilFunc, .nilFunc, .nilFunc, .nilFunc] := by rw [← h9]; exact b8.set 8 (.func (.func 115) #[] #[])
  have d9 : Below w.heap.size w W9 := by rw [← h9]; exact d8.setCell (Nat.le_refl _) _
  have s8 := store_box b8 8 .nilFunc (.func (.func 115) #[] #[]) rfl rfl
  rw [h9] at s8
  obtain ⟨W10, h10⟩ : ∃ r_, W9.setCell ⟨w.heap.size, 9, none⟩ (.func (.func 116) #[] #[]) = r_ := ⟨_, rfl⟩
  have b10 : BoxN W10 w.heap.size 116 #[.nilFunc, .func (.func 108) #[] #[], .func (.func 109) #[] #[], .func (.func 110) #[] #[], .func (.func 111) #[] #[], .func (.func 112) #[] #[], .func (.func 113) #[] #[], .func (.func 114) #[] #[], .func (.func 115) #[] #[], .func (.func 116) #[] #[], .nilFunc, .nilFunc, .nilFunc] := by rw [← h10]; exact b9.set 9 (.func (.func 116) #[] #[])
  have d10 : Below w.heap.size w W10 := by rw [← h10]; exact d9.setCell (Nat.le_refl _) _
  have s9 := store_box b9 9 .nilFunc (.func (.func 116) #[] #[]) rfl rfl
  rw [h10] at s9
  obtain ⟨W11, h11⟩ : ∃ r_, W10.setCell ⟨w.heap.size, 10, none⟩ (.func (.func 117) #[] #[]) = r_ := ⟨_, rfl⟩
  have b11 : BoxN W11 w.heap.size 116 #[.nilFunc, .func (.func 108) #[] #[], .func (.func 109) #[] #[], .func (.func 110) #[] #[], .func (.func 111) #[] #[], .func (.func 112) #[] #[], .func (.func 113) #[] #[], .func (.func 114) #[] #[], .func (.func 115) #[] #[], .func (.func 116) #[] #[], .func (.func 117) #[] #[], .nilFunc, .nilFunc] := by rw [← h11]; exact b10.set 10 (.func (.func 117) #[] #[])
  have d11 : Below w.heap.size w W11 := by rw [← h11]; exact d10.setCell (Nat.le_refl _) _
  have s10 := store_box b10 10 .nilFunc (.func (.func 117) #[] #[]) rfl rfl
  rw [h11] at s10
  obtain ⟨W12, h12⟩ : ∃ r_, W11.setCell ⟨w.heap.size, 11, none⟩ (.func (.func 118) #[] #[]) = r_ := ⟨_, rfl⟩
  have b12 : BoxN W12 w.heap.size 116 #[.nilFunc, .func (.func 108) #[] #[], .func (.func 109) #[] #[], .func (.func 110) #[] #[], .func (.func 111) #[] #[], .func (.func 112) #[] #[], .func (.func 113) #[] #[], .func (.func 114) #[] #[], .func (.func 115) #[] #[], .func (.func 116) #[] #[], .func (.func 117) #[] #[], .func (.func 118) #[] #[], .nilFunc] := by rw [← h12]; exact b11.set 11 (.func (.func 118) #[] #[])
  have d12 : Below w.heap.size w W12 := by rw [← h12]; exact d11.setCell (Nat.le_refl _) _
  have s11 := store_box b11 11 .nilFunc (.func (.func 118) #[] #[]) rfl rfl
  rw [h12] at s11
  obtain ⟨W13, h13⟩ : ∃ r_, W12.setCell ⟨w.heap.size, 12, none⟩ (.func (.func 119) #[] #[]) = r_ := ⟨_, rfl⟩
  have b13 : BoxN W13 w.heap.size 116 #[.nilFunc, .func (.func 108) #[] #[], .func (.func 109) #[] #[], .func (.func 110) #[] #[], .func (.func 111) #[] #[], .func (.func 112) #[] #[], .func (.func 113) #[] #[], .func (.func 114) #[] #[], .func (.func 115) #[] #[], .func (.func 116) #[] #[], .func (.func 117) #[] #[], .func (.func 118) #[] #[], .func (.func 119) #[] #[]] := by rw [← h13]; exact b12.set 12 (.func (.func 119) #[] #[])
  have d13 : Below w.heap.size w W13 := by rw [← h13]; exact d12.setCell (Nat.le_refl _) _
  have s12 := store_box b12 12 .nilFunc (.func (.func 119) #[] #[]) rfl rfl
  rw [h13] at s12
  have s0 := store_box b0 0 .nilFunc .nilFunc rfl rfl
  rw [h1, ← h0] at s0
  have z := b13
  have HD := Lib.hid d13
  have HZ := Lib.hid z
  clear z h0
  clear b0 d0 b1 d1 b2 d2 b3 d3 b4 d4 b5 d5 b6 d6 b7 d7 b8 d8 b9 d9 b10 d10 b11 d11 b12 d12 b13 d13 h1 h2 h3 h4 h5 h6 h7 h8 h9 h10 h11 h12 h13
  go_enter Tryz.func76, Tryz.ntmps76
  go_wp2
  obtain ⟨c0, c1, c2, c3, c4, c5, c6, c7, c8, c9, c10, c11, c12⟩ := thirteen HZ.out
  refine bodyPost_ret (v := playsV) (by simp [results, Tryz.results76, go_sem, c0, c1, c2, c3, c4, c5, c6, c7, c8, c9, c10, c11, c12]) rfl ⟨rfl, HD.out⟩

set_option maxRecDepth 100000 in
theorem Play.step_none {F : Nat → Prop} {w W : World} {P : Nat} {o : Option Nat} {k : OpK} {s : St} {N : Nat} (p : Play F w W P o k s N) (hk : k.kd = 0) (hN : N ≤ 90) {s' : St} (hs : s = s') :
    Calls Tryz.prog 39 #[.pointer (some ⟨P, 0, none⟩)] W fun e w' => e = .returned (.tuple #[]) ∧ Play F w w' P o k s' (N + 0) := by
  obtain ⟨hA, hX, hY, hS, hP⟩ := p.pl.ok
  go_enter Tryz.func39, Tryz.ntmps39
  obtain ⟨g0, g1, g2, g3, g4, g5, g6, g7, g8, g9, g10, g11, g12, g13, g15, gf⟩ := p.cells
  rw [hk] at g15
  go_wp2
  (try simp only [Exit.inBlock, Exit.then])
  first | refine bodyPost_ret (results_none rfl _ _ _) rfl ?_ | refine bodyPost_end (results_none rfl _ _ _) rfl ?_
  refine ⟨rfl, ?_⟩
  exact (by subst hs; exact p)

set_option maxRecDepth 100000 in
theorem Play.step_1 {F : Nat → Prop} {w W : World} {P : Nat} {o : Option Nat} {k : OpK} {s : St} {N : Nat} (p : Play F w W P o k s N) {t : St} (hk : k.kd = 1) (H : ∀ W', Play F w W' P o k s.fetch.2 (N + 1) → Calls Tryz.prog 108 #[.pointer (some ⟨P, 0, none⟩)] W' fun e w' => e = .returned (.tuple #[]) ∧ Play F w w' P o k t (N + 9)) (hN : N ≤ 72) {s' : St} (hs : t = s') :
    Calls Tryz.prog 39 #[.pointer (some ⟨P, 0, none⟩)] W fun e w' => e = .returned (.tuple #[]) ∧ Play F w w' P o k s' (N + 9) := by
  obtain ⟨hA, hX, hY, hS, hP⟩ := p.pl.ok
  obtain ⟨s1, hs1⟩ : ∃ r_, s.fetch.2 = r_ := ⟨_, rfl⟩
  rw [hs1] at H
  subst hs
  have hix : ∀ w : World, (Instr.index 116 playsV (.int .i64 1)).run Tryz.prog w = .ok (.func (.func 108) #[] #[]) w := fun _ => by kernel_rfl
  have Hs1 := Lib.hid hs1
  clear hs1
  go_enter Tryz.func39, Tryz.ntmps39
  obtain ⟨g0, g1, g2, g3, g4, g5, g6, g7, g8, g9, g10, g11, g12, g13, g15, gf⟩ := p.cells
  rw [hk] at g15
  go_wp2_with fail
  refine (p.fetch (by omega) rfl Hs1.out).mono ?_
  rintro e w1 ⟨rfl, p2⟩
  clear g0 g1 g2 g3 g4 g5 g6 g7 g8 g9 g10 g11 g12 g13 g15 gf
  go_wp2_with fail
  have p3 := p2.drew
  have g15 : w1.drew.cell? ⟨P, 15, none⟩ = some (.int .i64 1) := by rw [← hk]; exact p3.cells.2.2.2.2.2.2.2.2.2.2.2.2.2.2.1
  go_region_held3 (fun w' => w'.cell? ⟨P, 15, none⟩ = some (.int .i64 1)) (((try dsimp only); (first | (with_reducible exact g15) | (with_reducible exact hx)))) (first | (go_at_call 76; refine (plays_any _).mono ?_; rintro e wp ⟨rfl, dp⟩; (have pp := p3.below dp); (have hx : wp.cell? ⟨P, 15, none⟩ = some (.int .i64 1) := by rw [← hk]; exact pp.cells.2.2.2.2.2.2.2.2.2.2.2.2.2.2.1)))
  clear g15 hx
  go_wp2_with fail
  refine (H _ pp).mono ?_
  rintro e w4 ⟨rfl, p5⟩
  clear pp
  go_wp2
  (try simp only [Exit.inBlock, Exit.then])
  first | refine bodyPost_ret (results_none rfl _ _ _) rfl ?_ | refine bodyPost_end (results_none rfl _ _ _) rfl ?_
  refine ⟨rfl, ?_⟩
  exact p5

set_option maxRecDepth 100000 in
theorem Play.step_2 {F : Nat → Prop} {w W : World} {P : Nat} {o : Option Nat} {k : OpK} {s : St} {N : Nat} (p : Play F w W P o k s N) {t : St} (hk : k.kd = 2) (H : ∀ W', Play F w W' P o k s.fetch.2 (N + 1) → Calls Tryz.prog 109 #[.pointer (some ⟨P, 0, none⟩)] W' fun e w' => e = .returned (.tuple #[]) ∧ Play F w w' P o k t (N + 9)) (hN : N ≤ 72) {s' : St} (hs : t = s') :
    Calls Tryz.prog 39 #[.pointer (some ⟨P, 0, none⟩)] W fun e w' => e = .returned (.tuple #[]) ∧ Play F w w' P o k s' (N + 9) := by
  obtain ⟨hA, hX, hY, hS, hP⟩ := p.pl.ok
  obtain ⟨s1, hs1⟩ : ∃ r_, s.fetch.2 = r_ := ⟨_, rfl⟩
  rw [hs1] at H
  subst hs
  have hix : ∀ w : World, (Instr.index 116 playsV (.int .i64 2)).run Tryz.prog w = .ok (.func (.func 109) #[] #[]) w := fun _ => by kernel_rfl
  have Hs1 := Lib.hid hs1
  clear hs1
  go_enter Tryz.func39, Tryz.ntmps39
  obtain ⟨g0, g1, g2, g3, g4, g5, g6, g7, g8, g9, g10, g11, g12, g13, g15, gf⟩ := p.cells
  rw [hk] at g15
  go_wp2_with fail
  refine (p.fetch (by omega) rfl Hs1.out).mono ?_
  rintro e w1 ⟨rfl, p2⟩
  clear g0 g1 g2 g3 g4 g5 g6 g7 g8 g9 g10 g11 g12 g13 g15 gf
  go_wp2_with fail
  have p3 := p2.drew
  have g15 : w1.drew.cell? ⟨P, 15, none⟩ = some (.int .i64 2) := by rw [← hk]; exact p3.cells.2.2.2.2.2.2.2.2.2.2.2.2.2.2.1
  go_region_held3 (fun w' => w'.cell? ⟨P, 15, none⟩ = some (.int .i64 2)) (((try dsimp only); (first | (with_reducible exact g15) | (with_reducible exact hx)))) (first | (go_at_call 76; refine (plays_any _).mono ?_; rintro e wp ⟨rfl, dp⟩; (have pp := p3.below dp); (have hx : wp.cell? ⟨P, 15, none⟩ = some (.int .i64 2) := by rw [← hk]; exact pp.cells.2.2.2.2.2.2.2.2.2.2.2.2.2.2.1)))
  clear g15 hx
  go_wp2_with fail
  refine (H _ pp).mono ?_
  rintro e w4 ⟨rfl, p5⟩
  clear pp
  go_wp2
  (try simp only [Exit.inBlock, Exit.then])
  first | refine bodyPost_ret (results_none rfl _ _ _) rfl ?_ | refine bodyPost_end (results_none rfl _ _ _) rfl ?_
  refine ⟨rfl, ?_⟩
  exact p5

set_option maxRecDepth 100000 in
theorem Play.step_3 {F : Nat → Prop} {w W : World} {P : Nat} {o : Option Nat} {k : OpK} {s : St} {N : Nat} (p : Play F w W P o k s N) {t : St} (hk : k.kd = 3) (H : ∀ W', Play F w W' P o k s.fetch.2 (N + 1) → Calls Tryz.prog 110 #[.pointer (some ⟨P, 0, none⟩)] W' fun e w' => e = .returned (.tuple #[]) ∧ Play F w w' P o k t (N + 9)) (hN : N ≤ 72) {s' : St} (hs : t = s') :
    Calls Tryz.prog 39 #[.pointer (some ⟨P, 0, none⟩)] W fun e w' => e = .returned (.tuple #[]) ∧ Play F w w' P o k s' (N + 9) := by
  obtain ⟨hA, hX, hY, hS, hP⟩ := p.pl.ok
  obtain ⟨s1, hs1⟩ : ∃ r_, s.fetch.2 = r_ := ⟨_, rfl⟩
  rw [hs1] at H
  subst hs
  have hix : ∀ w : World, (Instr.index 116 playsV (.int .i64 3)).run Tryz.prog w = .ok (.func (.func 110) #[] #[]) w := fun _ => by kernel_rfl
  have Hs1 := Lib.hid hs1
  clear hs1
  go_enter Tryz.func39, Tryz.ntmps39
  obtain ⟨g0, g1, g2, g3, g4, g5, g6, g7, g8, g9, g10, g11, g12, g13, g15, gf⟩ := p.cells
  rw [hk] at g15
  go_wp2_with fail
  refine (p.fetch (by omega) rfl Hs1.out).mono ?_
  rintro e w1 ⟨rfl, p2⟩
  clear g0 g1 g2 g3 g4 g5 g6 g7 g8 g9 g10 g11 g12 g13 g15 gf
  go_wp2_with fail
  have p3 := p2.drew
  have g15 : w1.drew.cell? ⟨P, 15, none⟩ = some (.int .i64 3) := by rw [← hk]; exact p3.cells.2.2.2.2.2.2.2.2.2.2.2.2.2.2.1
  go_region_held3 (fun w' => w'.cell? ⟨P, 15, none⟩ = some (.int .i64 3)) (((try dsimp only); (first | (with_reducible exact g15) | (with_reducible exact hx)))) (first | (go_at_call 76; refine (plays_any _).mono ?_; rintro e wp ⟨rfl, dp⟩; (have pp := p3.below dp); (have hx : wp.cell? ⟨P, 15, none⟩ = some (.int .i64 3) := by rw [← hk]; exact pp.cells.2.2.2.2.2.2.2.2.2.2.2.2.2.2.1)))
  clear g15 hx
  go_wp2_with fail
  refine (H _ pp).mono ?_
  rintro e w4 ⟨rfl, p5⟩
  clear pp
  go_wp2
  (try simp only [Exit.inBlock, Exit.then])
  first | refine bodyPost_ret (results_none rfl _ _ _) rfl ?_ | refine bodyPost_end (results_none rfl _ _ _) rfl ?_
  refine ⟨rfl, ?_⟩
  exact p5

set_option maxRecDepth 100000 in
theorem Play.step_4 {F : Nat → Prop} {w W : World} {P : Nat} {o : Option Nat} {k : OpK} {s : St} {N : Nat} (p : Play F w W P o k s N) {t : St} (hk : k.kd = 4) (H : ∀ W', Play F w W' P o k s.fetch.2 (N + 1) → Calls Tryz.prog 111 #[.pointer (some ⟨P, 0, none⟩)] W' fun e w' => e = .returned (.tuple #[]) ∧ Play F w w' P o k t (N + 9)) (hN : N ≤ 72) {s' : St} (hs : t = s') :
    Calls Tryz.prog 39 #[.pointer (some ⟨P, 0, none⟩)] W fun e w' => e = .returned (.tuple #[]) ∧ Play F w w' P o k s' (N + 9) := by
  obtain ⟨hA, hX, hY, hS, hP⟩ := p.pl.ok
  obtain ⟨s1, hs1⟩ : ∃ r_, s.fetch.2 = r_ := ⟨_, rfl⟩
  rw [hs1] at H
  subst hs
  have hix : ∀ w : World, (Instr.index 116 playsV (.int .i64 4)).run Tryz.prog w = .ok (.func (.func 111) #[] #[]) w := fun _ => by kernel_rfl
  have Hs1 := Lib.hid hs1
  clear hs1
  go_enter Tryz.func39, Tryz.ntmps39
  obtain ⟨g0, g1, g2, g3, g4, g5, g6, g7, g8, g9, g10, g11, g12, g13, g15, gf⟩ := p.cells
  rw [hk] at g15
  go_wp2_with fail
  refine (p.fetch (by omega) rfl Hs1.out).mono ?_
  rintro e w1 ⟨rfl, p2⟩
  clear g0 g1 g2 g3 g4 g5 g6 g7 g8 g9 g10 g11 g12 g13 g15 gf
  go_wp2_with fail
  have p3 := p2.drew
  have g15 : w1.drew.cell? ⟨P, 15, none⟩ = some (.int .i64 4) := by rw [← hk]; exact p3.cells.2.2.2.2.2.2.2.2.2.2.2.2.2.2.1
  go_region_held3 (fun w' => w'.cell? ⟨P, 15, none⟩ = some (.int .i64 4)) (((try dsimp only); (first | (with_reducible exact g15) | (with_reducible exact hx)))) (first | (go_at_call 76; refine (plays_any _).mono ?_; rintro e wp ⟨rfl, dp⟩; (have pp := p3.below dp); (have hx : wp.cell? ⟨P, 15, none⟩ = some (.int .i64 4) := by rw [← hk]; exact pp.cells.2.2.2.2.2.2.2.2.2.2.2.2.2.2.1)))
  clear g15 hx
  go_wp2_with fail
  refine (H _ pp).mono ?_
  rintro e w4 ⟨rfl, p5⟩
  clear pp
  go_wp2
  (try simp only [Exit.inBlock, Exit.then])
  first | refine bodyPost_ret (results_none rfl _ _ _) rfl ?_ | refine bodyPost_end (results_none rfl _ _ _) rfl ?_
  refine ⟨rfl, ?_⟩
  exact p5

set_option maxRecDepth 100000 in
theorem Play.step_5 {F : Nat → Prop} {w W : World} {P : Nat} {o : Option Nat} {k : OpK} {s : St} {N : Nat} (p : Play F w W P o k s N) {t : St} (hk : k.kd = 5) (H : ∀ W', Play F w W' P o k s.fetch.2 (N + 1) → Calls Tryz.prog 112 #[.pointer (some ⟨P, 0, none⟩)] W' fun e w' => e = .returned (.tuple #[]) ∧ Play F w w' P o k t (N + 9)) (hN : N ≤ 72) {s' : St} (hs : t = s') :
    Calls Tryz.prog 39 #[.pointer (some ⟨P, 0, none⟩)] W fun e w' => e = .returned (.tuple #[]) ∧ Play F w w' P o k s' (N + 9) := by
  obtain ⟨hA, hX, hY, hS, hP⟩ := p.pl.ok
  obtain ⟨s1, hs1⟩ : ∃ r_, s.fetch.2 = r_ := ⟨_, rfl⟩
  rw [hs1] at H
  subst hs
  have hix : ∀ w : World, (Instr.index 116 playsV (.int .i64 5)).run Tryz.prog w = .ok (.func (.func 112) #[] #[]) w := fun _ => by kernel_rfl
  have Hs1 := Lib.hid hs1
  clear hs1
  go_enter Tryz.func39, Tryz.ntmps39
  obtain ⟨g0, g1, g2, g3, g4, g5, g6, g7, g8, g9, g10, g11, g12, g13, g15, gf⟩ := p.cells
  rw [hk] at g15
  go_wp2_with fail
  refine (p.fetch (by omega) rfl Hs1.out).mono ?_
  rintro e w1 ⟨rfl, p2⟩
  clear g0 g1 g2 g3 g4 g5 g6 g7 g8 g9 g10 g11 g12 g13 g15 gf
  go_wp2_with fail
  have p3 := p2.drew
  have g15 : w1.drew.cell? ⟨P, 15, none⟩ = some (.int .i64 5) := by rw [← hk]; exact p3.cells.2.2.2.2.2.2.2.2.2.2.2.2.2.2.1
  go_region_held3 (fun w' => w'.cell? ⟨P, 15, none⟩ = some (.int .i64 5)) (((try dsimp only); (first | (with_reducible exact g15) | (with_reducible exact hx)))) (first | (go_at_call 76; refine (plays_any _).mono ?_; rintro e wp ⟨rfl, dp⟩; (have pp := p3.below dp); (have hx : wp.cell? ⟨P, 15, none⟩ = some (.int .i64 5) := by rw [← hk]; exact pp.cells.2.2.2.2.2.2.2.2.2.2.2.2.2.2.1)))
  clear g15 hx
  go_wp2_with fail
  refine (H _ pp).mono ?_
  rintro e w4 ⟨rfl, p5⟩
  clear pp
  go_wp2
  (try simp only [Exit.inBlock, Exit.then])
  first | refine bodyPost_ret (results_none rfl _ _ _) rfl ?_ | refine bodyPost_end (results_none rfl _ _ _) rfl ?_
  refine ⟨rfl, ?_⟩
  exact p5

set_option maxRecDepth 100000 in
theorem Play.step_6 {F : Nat → Prop} {w W : World} {P : Nat} {o : Option Nat} {k : OpK} {s : St} {N : Nat} (p : Play F w W P o k s N) {t : St} (hk : k.kd = 6) (H : ∀ W', Play F w W' P o k s.fetch.2 (N + 1) → Calls Tryz.prog 113 #[.pointer (some ⟨P, 0, none⟩)] W' fun e w' => e = .returned (.tuple #[]) ∧ Play F w w' P o k t (N + 9)) (hN : N ≤ 72) {s' : St} (hs : t = s') :
    Calls Tryz.prog 39 #[.pointer (some ⟨P, 0, none⟩)] W fun e w' => e = .returned (.tuple #[]) ∧ Play F w w' P o k s' (N + 9) := by
  obtain ⟨hA, hX, hY, hS, hP⟩ := p.pl.ok
  obtain ⟨s1, hs1⟩ : ∃ r_, s.fetch.2 = r_ := ⟨_, rfl⟩
  rw [hs1] at H
  subst hs
  have hix : ∀ w : World, (Instr.index 116 playsV (.int .i64 6)).run Tryz.prog w = .ok (.func (.func 113) #[] #[]) w := fun _ => by kernel_rfl
  have Hs1 := Lib.hid hs1
  clear hs1
  go_enter Tryz.func39, Tryz.ntmps39
  obtain ⟨g0, g1, g2, g3, g4, g5, g6, g7, g8, g9, g10, g11, g12, g13, g15, gf⟩ := p.cells
  rw [hk] at g15
  go_wp2_with fail
  refine (p.fetch (by omega) rfl Hs1.out).mono ?_
  rintro e w1 ⟨rfl, p2⟩
  clear g0 g1 g2 g3 g4 g5 g6 g7 g8 g9 g10 g11 g12 g13 g15 gf
  go_wp2_with fail
  have p3 := p2.drew
  have g15 : w1.drew.cell? ⟨P, 15, none⟩ = some (.int .i64 6) := by rw [← hk]; exact p3.cells.2.2.2.2.2.2.2.2.2.2.2.2.2.2.1
  go_region_held3 (fun w' => w'.cell? ⟨P, 15, none⟩ = some (.int .i64 6)) (((try dsimp only); (first | (with_reducible exact g15) | (with_reducible exact hx)))) (first | (go_at_call 76; refine (plays_any _).mono ?_; rintro e wp ⟨rfl, dp⟩; (have pp := p3.below dp); (have hx : wp.cell? ⟨P, 15, none⟩ = some (.int .i64 6) := by rw [← hk]; exact pp.cells.2.2.2.2.2.2.2.2.2.2.2.2.2.2.1)))
  clear g15 hx
  go_wp2_with fail
  refine (H _ pp).mono ?_
  rintro e w4 ⟨rfl, p5⟩
  clear pp
  go_wp2
  (try simp only [Exit.inBlock, Exit.then])
  first | refine bodyPost_ret (results_none rfl _ _ _) rfl ?_ | refine bodyPost_end (results_none rfl _ _ _) rfl ?_
  refine ⟨rfl, ?_⟩
  exact p5

set_option maxRecDepth 100000 in
theorem Play.step_7 {F : Nat → Prop} {w W : World} {P : Nat} {o : Option Nat} {k : OpK} {s : St} {N : Nat} (p : Play F w W P o k s N) {t : St} (hk : k.kd = 7) (H : ∀ W', Play F w W' P o k s.fetch.2 (N + 1) → Calls Tryz.prog 114 #[.pointer (some ⟨P, 0, none⟩)] W' fun e w' => e = .returned (.tuple #[]) ∧ Play F w w' P o k t (N + 9)) (hN : N ≤ 72) {s' : St} (hs : t = s') :
    Calls Tryz.prog 39 #[.pointer (some ⟨P, 0, none⟩)] W fun e w' => e = .returned (.tuple #[]) ∧ Play F w w' P o k s' (N + 9) := by
  obtain ⟨hA, hX, hY, hS, hP⟩ := p.pl.ok
  obtain ⟨s1, hs1⟩ : ∃ r_, s.fetch.2 = r_ := ⟨_, rfl⟩
  rw [hs1] at H
  subst hs
  have hix : ∀ w : World, (Instr.index 116 playsV (.int .i64 7)).run Tryz.prog w = .ok (.func (.func 114) #[] #[]) w := fun _ => by kernel_rfl
  have Hs1 := Lib.hid hs1
  clear hs1
  go_enter Tryz.func39, Tryz.ntmps39
  obtain ⟨g0, g1, g2, g3, g4, g5, g6, g7, g8, g9, g10, g11, g12, g13, g15, gf⟩ := p.cells
  rw [hk] at g15
  go_wp2_with fail
  refine (p.fetch (by omega) rfl Hs1.out).mono ?_
  rintro e w1 ⟨rfl, p2⟩
  clear g0 g1 g2 g3 g4 g5 g6 g7 g8 g9 g10 g11 g12 g13 g15 gf
  go_wp2_with fail
  have p3 := p2.drew
  have g15 : w1.drew.cell? ⟨P, 15, none⟩ = some (.int .i64 7) := by rw [← hk]; exact p3.cells.2.2.2.2.2.2.2.2.2.2.2.2.2.2.1
  go_region_held3 (fun w' => w'.cell? ⟨P, 15, none⟩ = some (.int .i64 7)) (((try dsimp only); (first | (with_reducible exact g15) | (with_reducible exact hx)))) (first | (go_at_call 76; refine (plays_any _).mono ?_; rintro e wp ⟨rfl, dp⟩; (have pp := p3.below dp); (have hx : wp.cell? ⟨P, 15, none⟩ = some (.int .i64 7) := by rw [← hk]; exact pp.cells.2.2.2.2.2.2.2.2.2.2.2.2.2.2.1)))
  clear g15 hx
  go_wp2_with fail
  refine (H _ pp).mono ?_
  rintro e w4 ⟨rfl, p5⟩
  clear pp
  go_wp2
  (try simp only [Exit.inBlock, Exit.then])
  first | refine bodyPost_ret (results_none rfl _ _ _) rfl ?_ | refine bodyPost_end (results_none rfl _ _ _) rfl ?_
  refine ⟨rfl, ?_⟩
  exact p5

set_option maxRecDepth 100000 in
theorem Play.step_8 {F : Nat → Prop} {w W : World} {P : Nat} {o : Option Nat} {k : OpK} {s : St} {N : Nat} (p : Play F w W P o k s N) {t : St} (hk : k.kd = 8) (H : ∀ W', Play F w W' P o k s.fetch.2 (N + 1) → Calls Tryz.prog 115 #[.pointer (some ⟨P, 0, none⟩)] W' fun e w' => e = .returned (.tuple #[]) ∧ Play F w w' P o k t (N + 9)) (hN : N ≤ 72) {s' : St} (hs : t = s') :
    Calls Tryz.prog 39 #[.pointer (some ⟨P, 0, none⟩)] W fun e w' => e = .returned (.tuple #[]) ∧ Play F w w' P o k s' (N + 9) := by
  obtain ⟨hA, hX, hY, hS, hP⟩ := p.pl.ok
  obtain ⟨s1, hs1⟩ : ∃ r_, s.fetch.2 = r_ := ⟨_, rfl⟩
  rw [hs1] at H
  subst hs
  have hix : ∀ w : World, (Instr.index 116 playsV (.int .i64 8)).run Tryz.prog w = .ok (.func (.func 115) #[] #[]) w := fun _ => by kernel_rfl
  have Hs1 := Lib.hid hs1
  clear hs1
  go_enter Tryz.func39, Tryz.ntmps39
  obtain ⟨g0, g1, g2, g3, g4, g5, g6, g7, g8, g9, g10, g11, g12, g13, g15, gf⟩ := p.cells
  rw [hk] at g15
  go_wp2_with fail
  refine (p.fetch (by omega) rfl Hs1.out).mono ?_
  rintro e w1 ⟨rfl, p2⟩
  clear g0 g1 g2 g3 g4 g5 g6 g7 g8 g9 g10 g11 g12 g13 g15 gf
  go_wp2_with fail
  have p3 := p2.drew
  have g15 : w1.drew.cell? ⟨P, 15, none⟩ = some (.int .i64 8) := by rw [← hk]; exact p3.cells.2.2.2.2.2.2.2.2.2.2.2.2.2.2.1
  go_region_held3 (fun w' => w'.cell? ⟨P, 15, none⟩ = some (.int .i64 8)) (((try dsimp only); (first | (with_reducible exact g15) | (with_reducible exact hx)))) (first | (go_at_call 76; refine (plays_any _).mono ?_; rintro e wp ⟨rfl, dp⟩; (have pp := p3.below dp); (have hx : wp.cell? ⟨P, 15, none⟩ = some (.int .i64 8) := by rw [← hk]; exact pp.cells.2.2.2.2.2.2.2.2.2.2.2.2.2.2.1)))
  clear g15 hx
  go_wp2_with fail
  refine (H _ pp).mono ?_
  rintro e w4 ⟨rfl, p5⟩
  clear pp
  go_wp2
  (try simp only [Exit.inBlock, Exit.then])
  first | refine bodyPost_ret (results_none rfl _ _ _) rfl ?_ | refine bodyPost_end (results_none rfl _ _ _) rfl ?_
  refine ⟨rfl, ?_⟩
  exact p5

set_option maxRecDepth 100000 in
theorem Play.step_9 {F : Nat → Prop} {w W : World} {P : Nat} {o : Option Nat} {k : OpK} {s : St} {N : Nat} (p : Play F w W P o k s N) {t : St} (hk : k.kd = 9) (H : ∀ W', Play F w W' P o k s.fetch.2 (N + 1) → Calls Tryz.prog 116 #[.pointer (some ⟨P, 0, none⟩)] W' fun e w' => e = .returned (.tuple #[]) ∧ Play F w w' P o k t (N + 9)) (hN : N ≤ 72) {s' : St} (hs : t = s') :
    Calls Tryz.prog 39 #[.pointer (some ⟨P, 0, none⟩)] W fun e w' => e = .returned (.tuple #[]) ∧ Play F w w' P o k s' (N + 9) := by
  obtain ⟨hA, hX, hY, hS, hP⟩ := p.pl.ok
  obtain ⟨s1, hs1⟩ : ∃ r_, s.fetch.2 = r_ := ⟨_, rfl⟩
  rw [hs1] at H
  subst hs
  have hix : ∀ w : World, (Instr.index 116 playsV (.int .i64 9)).run Tryz.prog w = .ok (.func (.func 116) #[] #[]) w := fun _ => by kernel_rfl
  have Hs1 := Lib.hid hs1
  clear hs1
  go_enter Tryz.func39, Tryz.ntmps39
  obtain ⟨g0, g1, g2, g3, g4, g5, g6, g7, g8, g9, g10, g11, g12, g13, g15, gf⟩ := p.cells
  rw [hk] at g15
  go_wp2_with fail
  refine (p.fetch (by omega) rfl Hs1.out).mono ?_
  rintro e w1 ⟨rfl, p2⟩
  clear g0 g1 g2 g3 g4 g5 g6 g7 g8 g9 g10 g11 g12 g13 g15 gf
  go_wp2_with fail
  have p3 := p2.drew
  have g15 : w1.drew.cell? ⟨P, 15, none⟩ = some (.int .i64 9) := by rw [← hk]; exact p3.cells.2.2.2.2.2.2.2.2.2.2.2.2.2.2.1
  go_region_held3 (fun w' => w'.cell? ⟨P, 15, none⟩ = some (.int .i64 9)) (((try dsimp only); (first | (with_reducible exact g15) | (with_reducible exact hx)))) (first | (go_at_call 76; refine (plays_any _).mono ?_; rintro e wp ⟨rfl, dp⟩; (have pp := p3.below dp); (have hx : wp.cell? ⟨P, 15, none⟩ = some (.int .i64 9) := by rw [← hk]; exact pp.cells.2.2.2.2.2.2.2.2.2.2.2.2.2.2.1)))
  clear g15 hx
  go_wp2_with fail
  refine (H _ pp).mono ?_
  rintro e w4 ⟨rfl, p5⟩
  clear pp
  go_wp2
  (try simp only [Exit.inBlock, Exit.then])
  first | refine bodyPost_ret (results_none rfl _ _ _) rfl ?_ | refine bodyPost_end (results_none rfl _ _ _) rfl ?_
  refine ⟨rfl, ?_⟩
  exact p5

set_option maxRecDepth 100000 in
theorem Play.step_10 {F : Nat → Prop} {w W : World} {P : Nat} {o : Option Nat} {k : OpK} {s : St} {N : Nat} (p : Play F w W P o k s N) {t : St} (hk : k.kd = 10) (H : ∀ W', Play F w W' P o k s.fetch.2 (N + 1) → Calls Tryz.prog 117 #[.pointer (some ⟨P, 0, none⟩)] W' fun e w' => e = .returned (.tuple #[]) ∧ Play F w w' P o k t (N + 9)) (hN : N ≤ 72) {s' : St} (hs : t = s') :
    Calls Tryz.prog 39 #[.pointer (some ⟨P, 0, none⟩)] W fun e w' => e = .returned (.tuple #[]) ∧ Play F w w' P o k s' (N + 9) := by
  obtain ⟨hA, hX, hY, hS, hP⟩ := p.pl.ok
  obtain ⟨s1, hs1⟩ : ∃ r_, s.fetch.2 = r_ := ⟨_, rfl⟩
  rw [hs1] at H
  subst hs
  have hix : ∀ w : World, (Instr.index 116 playsV (.int .i64 10)).run Tryz.prog w = .ok (.func (.func 117) #[] #[]) w := fun _ => by kernel_rfl
  have Hs1 := Lib.hid hs1
  clear hs1
  go_enter Tryz.func39, Tryz.ntmps39
  obtain ⟨g0, g1, g2, g3, g4, g5, g6, g7, g8, g9, g10, g11, g12, g13, g15, gf⟩ := p.cells
  rw [hk] at g15
  go_wp2_with fail
  refine (p.fetch (by omega) rfl Hs1.out).mono ?_
  rintro e w1 ⟨rfl, p2⟩
  clear g0 g1 g2 g3 g4 g5 g6 g7 g8 g9 g10 g11 g12 g13 g15 gf
  go_wp2_with fail
  have p3 := p2.drew
  have g15 : w1.drew.cell? ⟨P, 15, none⟩ = some (.int .i64 10) := by rw [← hk]; exact p3.cells.2.2.2.2.2.2.2.2.2.2.2.2.2.2.1
  go_region_held3 (fun w' => w'.cell? ⟨P, 15, none⟩ = some (.int .i64 10)) (((try dsimp only); (first | (with_reducible exact g15) | (with_reducible exact hx)))) (first | (go_at_call 76; refine (plays_any _).mono ?_; rintro e wp ⟨rfl, dp⟩; (have pp := p3.below dp); (have hx : wp.cell? ⟨P, 15, none⟩ = some (.int .i64 10) := by rw [← hk]; exact pp.cells.2.2.2.2.2.2.2.2.2.2.2.2.2.2.1)))
  clear g15 hx
  go_wp2_with fail
  refine (H _ pp).mono ?_
  rintro e w4 ⟨rfl, p5⟩
  clear pp
  go_wp2
  (try simp only [Exit.inBlock, Exit.then])
  first | refine bodyPost_ret (results_none rfl _ _ _) rfl ?_ | refine bodyPost_end (results_none rfl _ _ _) rfl ?_
  refine ⟨rfl, ?_⟩
  exact p5

set_option maxRecDepth 100000 in
theorem Play.step_11 {F : Nat → Prop} {w W : World} {P : Nat} {o : Option Nat} {k : OpK} {s : St} {N : Nat} (p : Play F w W P o k s N) {t : St} (hk : k.kd = 11) (H : ∀ W', Play F w W' P o k s.fetch.2 (N + 1) → Calls Tryz.prog 118 #[.pointer (some ⟨P, 0, none⟩)] W' fun e w' => e = .returned (.tuple #[]) ∧ Play F w w' P o k t (N + 9)) (hN : N ≤ 72) {s' : St} (hs : t = s') :
    Calls Tryz.prog 39 #[.pointer (some ⟨P, 0, none⟩)] W fun e w' => e = .returned (.tuple #[]) ∧ Play F w w' P o k s' (N + 9) := by
  obtain ⟨hA, hX, hY, hS, hP⟩ := p.pl.ok
  obtain ⟨s1, hs1⟩ : ∃ r_, s.fetch.2 = r_ := ⟨_, rfl⟩
  rw [hs1] at H
  subst hs
  have hix : ∀ w : World, (Instr.index 116 playsV (.int .i64 11)).run Tryz.prog w = .ok (.func (.func 118) #[] #[]) w := fun _ => by kernel_rfl
  have Hs1 := Lib.hid hs1
  clear hs1
  go_enter Tryz.func39, Tryz.ntmps39
  obtain ⟨g0, g1, g2, g3, g4, g5, g6, g7, g8, g9, g10, g11, g12, g13, g15, gf⟩ := p.cells
  rw [hk] at g15
  go_wp2_with fail
  refine (p.fetch (by omega) rfl Hs1.out).mono ?_
  rintro e w1 ⟨rfl, p2⟩
  clear g0 g1 g2 g3 g4 g5 g6 g7 g8 g9 g10 g11 g12 g13 g15 gf
  go_wp2_with fail
  have p3 := p2.drew
  have g15 : w1.drew.cell? ⟨P, 15, none⟩ = some (.int .i64 11) := by rw [← hk]; exact p3.cells.2.2.2.2.2.2.2.2.2.2.2.2.2.2.1
  go_region_held3 (fun w' => w'.cell? ⟨P, 15, none⟩ = some (.int .i64 11)) (((try dsimp only); (first | (with_reducible exact g15) | (with_reducible exact hx)))) (first | (go_at_call 76; refine (plays_any _).mono ?_; rintro e wp ⟨rfl, dp⟩; (have pp := p3.below dp); (have hx : wp.cell? ⟨P, 15, none⟩ = some (.int .i64 11) := by rw [← hk]; exact pp.cells.2.2.2.2.2.2.2.2.2.2.2.2.2.2.1)))
  clear g15 hx
  go_wp2_with fail
  refine (H _ pp).mono ?_
  rintro e w4 ⟨rfl, p5⟩
  clear pp
  go_wp2
  (try simp only [Exit.inBlock, Exit.then])
  first | refine bodyPost_ret (results_none rfl _ _ _) rfl ?_ | refine bodyPost_end (results_none rfl _ _ _) rfl ?_
  refine ⟨rfl, ?_⟩
  exact p5

set_option maxRecDepth 100000 in
theorem Play.step_12 {F : Nat → Prop} {w W : World} {P : Nat} {o : Option Nat} {k : OpK} {s : St} {N : Nat} (p : Play F w W P o k s N) {t : St} (hk : k.kd = 12) (H : ∀ W', Play F w W' P o k s.fetch.2 (N + 1) → Calls Tryz.prog 119 #[.pointer (some ⟨P, 0, none⟩)] W' fun e w' => e = .returned (.tuple #[]) ∧ Play F w w' P o k t (N + 9)) (hN : N ≤ 72) {s' : St} (hs : t = s') :
    Calls Tryz.prog 39 #[.pointer (some ⟨P, 0, none⟩)] W fun e w' => e = .returned (.tuple #[]) ∧ Play F w w' P o k s' (N + 9) := by
  obtain ⟨hA, hX, hY, hS, hP⟩ := p.pl.ok
  obtain ⟨s1, hs1⟩ : ∃ r_, s.fetch.2 = r_ := ⟨_, rfl⟩
  rw [hs1] at H
  subst hs
  have hix : ∀ w : World, (Instr.index 116 playsV (.int .i64 12)).run Tryz.prog w = .ok (.func (.func 119) #[] #[]) w := fun _ => by kernel_rfl
  have Hs1 := Lib.hid hs1
  clear hs1
  go_enter Tryz.func39, Tryz.ntmps39
  obtain ⟨g0, g1, g2, g3, g4, g5, g6, g7, g8, g9, g10, g11, g12, g13, g15, gf⟩ := p.cells
  rw [hk] at g15
  go_wp2_with fail
  refine (p.fetch (by omega) rfl Hs1.out).mono ?_
  rintro e w1 ⟨rfl, p2⟩
  clear g0 g1 g2 g3 g4 g5 g6 g7 g8 g9 g10 g11 g12 g13 g15 gf
  go_wp2_with fail
  have p3 := p2.drew
  have g15 : w1.drew.cell? ⟨P, 15, none⟩ = some (.int .i64 12) := by rw [← hk]; exact p3.cells.2.2.2.2.2.2.2.2.2.2.2.2.2.2.1
  go_region_held3 (fun w' => w'.cell? ⟨P, 15, none⟩ = some (.int .i64 12)) (((try dsimp only); (first | (with_reducible exact g15) | (with_reducible exact hx)))) (first | (go_at_call 76; refine (plays_any _).mono ?_; rintro e wp ⟨rfl, dp⟩; (have pp := p3.below dp); (have hx : wp.cell? ⟨P, 15, none⟩ = some (.int .i64 12) := by rw [← hk]; exact pp.cells.2.2.2.2.2.2.2.2.2.2.2.2.2.2.1)))
  clear g15 hx
  go_wp2_with fail
  refine (H _ pp).mono ?_
  rintro e w4 ⟨rfl, p5⟩
  clear pp
  go_wp2
  (try simp only [Exit.inBlock, Exit.then])
  first | refine bodyPost_ret (results_none rfl _ _ _) rfl ?_ | refine bodyPost_end (results_none rfl _ _ _) rfl ?_
  refine ⟨rfl, ?_⟩
  exact p5

end Go.Proofs.YtblchdmemhhcbaaGreat
