/-
  Contracts over the program: impl's texts behind a name, by mode: closures in an array.
-/
import Derived.Test.YtffhjoldiicgdaaHexText
import Derived.Test.YtffhjoldiicgdaaAsmNum
import Derived.Deep.RegionHeld3
import Derived.Laws.EntriesVeiled
import Derived.WalkKit
import Derived.Lib.Hide
namespace Go.Proofs.Ytffhjoldiicgdaa
set_option linter.unusedVariables false
set_option linter.unusedSimpArgs false
open Go.RowKit

theorem implHexB (n d : Int) (h1 : n ≤ 9223372036854775807) (w : World) :
    Calls Try.prog 66 #[.int .i64 n, .int .i64 d] w fun e w' => e = .returned (.string ⟨(hexT n d).toArray⟩) ∧ Below w.heap.size w w' :=
  (implHexText_any n d h1 w).mono fun _ _ h => ⟨h.1, by
    rcases h.2 with rfl | ⟨C, rfl⟩
    · exact Below.refl _ _
    · exact (Below.refl _ _).alloc (Nat.le_refl _) _⟩

theorem fixTx_any (T : ByteArray) (B : Nat) (n : Int) (w : World) (hc : w.cell? ⟨B, 0, none⟩ = some (.string T)) :
    Calls Try.prog 84 #[.int .i64 n, .pointer (some ⟨B, 0, none⟩)] w fun e w' => e = .returned (.string T) ∧ w = w' := by
  go_enter Try.func84, Try.ntmps84
  go_wp2
  go_ret
  exact ⟨rfl, rfl⟩

theorem three_keep {W w1 : World} {B C D : Nat} {a b c : Value} (hb : Below W.heap.size W w1) (h1 : B < W.heap.size) (h2 : C < W.heap.size) (h3 : D < W.heap.size) (h : W.cell? ⟨B, 0, none⟩ = some a ∧ W.cell? ⟨C, 0, none⟩ = some b ∧ W.cell? ⟨D, 0, none⟩ = some c) :
    w1.cell? ⟨B, 0, none⟩ = some a ∧ w1.cell? ⟨C, 0, none⟩ = some b ∧ w1.cell? ⟨D, 0, none⟩ = some c :=
  ⟨(hb.cell (p := ⟨B, 0, none⟩) h1).trans h.1, (hb.cell (p := ⟨C, 0, none⟩) h2).trans h.2.1, (hb.cell (p := ⟨D, 0, none⟩) h3).trans h.2.2⟩

set_option maxRecDepth 100000 in
theorem numTx_any (T U H : ByteArray) (B d : Nat) (n : Int) (w : World) (hd : d < 9) (hT : T.size ≤ 16) (hH : H.size ≤ 16) (hU : U.size ≤ 16)
    (HX : ∀ w, Calls Try.prog 66 #[.int .i64 n, .int .i64 d] w fun e w' => e = .returned (.string H) ∧ Below w.heap.size w w')
    (hB : B + 2 < w.heap.size)
    (c1 : w.cell? ⟨B, 0, none⟩ = some (.string T)) (c2 : w.cell? ⟨B + 1, 0, none⟩ = some (.int .i64 d)) (c3 : w.cell? ⟨B + 2, 0, none⟩ = some (.string U)) :
    Calls Try.prog 85 #[.int .i64 n, .pointer (some ⟨B, 0, none⟩), .pointer (some ⟨B + 1, 0, none⟩), .pointer (some ⟨B + 2, 0, none⟩)] w fun e w' => e = .returned (.string (T ++ H ++ U)) ∧ Below w.heap.size w w' := by
  have hS : w.drew.cell? ⟨B, 0, none⟩ = some (.string T) ∧ w.drew.cell? ⟨B + 1, 0, none⟩ = some (.int .i64 d) ∧ w.drew.cell? ⟨B + 2, 0, none⟩ = some (.string U) := ⟨c1, c2, c3⟩
  have s1 : ¬ 9223372036854775807 < T.size + H.size := by omega
  have s2 : ¬ 9223372036854775807 < T.size + H.size + U.size := by omega
  have z1 : B < w.drew.heap.size := by show B < w.heap.size; omega
  have z2 : B + 1 < w.drew.heap.size := by show B + 1 < w.heap.size; omega
  have z3 : B + 2 < w.drew.heap.size := by show B + 2 < w.heap.size; omega
  go_enter Try.func85, Try.ntmps85
  go_wp2_with fail
  go_region_held3 (fun w' => w'.cell? ⟨B, 0, none⟩ = some (.string T) ∧ w'.cell? ⟨B + 1, 0, none⟩ = some (.int .i64 d) ∧ w'.cell? ⟨B + 2, 0, none⟩ = some (.string U)) (((try dsimp only); (first | (with_reducible exact hS) | (with_reducible exact three_keep hX z1 z2 z3 hS))))
    (first | (go_at_call 66; refine (HX _).mono ?_; rintro e w1 ⟨rfl, hX⟩))
  all_goals go_wp2
  all_goals go_ret
  all_goals exact ⟨rfl, Below.trans (Below.drew (Below.refl _ _)) hX⟩

/-- What the closures hold, box by box. -/
def mtCells : List Value := [.string ⟨#[]⟩, .string ⟨#[32, 65]⟩, .string ⟨#[32, 35, 36]⟩, .int .i64 2, .string ⟨#[]⟩, .string ⟨#[32, 36]⟩, .int .i64 2, .string ⟨#[]⟩, .string ⟨#[32, 36]⟩, .int .i64 2, .string ⟨#[44, 88]⟩, .string ⟨#[32, 36]⟩, .int .i64 2, .string ⟨#[44, 89]⟩, .string ⟨#[32, 36]⟩, .int .i64 4, .string ⟨#[]⟩, .string ⟨#[32, 36]⟩, .int .i64 4, .string ⟨#[44, 88]⟩, .string ⟨#[32, 36]⟩, .int .i64 4, .string ⟨#[44, 89]⟩, .string ⟨#[32, 40, 36]⟩, .int .i64 4, .string ⟨#[41]⟩, .string ⟨#[32, 40, 36]⟩, .int .i64 2, .string ⟨#[44, 88, 41]⟩, .string ⟨#[32, 40, 36]⟩, .int .i64 2, .string ⟨#[41, 44, 89]⟩, .string ⟨#[32, 36]⟩, .int .i64 4, .string ⟨#[]⟩]

/-- The array of closures whose boxes lie behind block B. -/
def mtV (B : Nat) : Value := .agg #[.func (.func 84) #[] #[.pointer (some ⟨B + 1, 0, none⟩)], .func (.func 84) #[] #[.pointer (some ⟨B + 2, 0, none⟩)], .func (.func 85) #[] #[.pointer (some ⟨B + 3, 0, none⟩), .pointer (some ⟨B + 4, 0, none⟩), .pointer (some ⟨B + 5, 0, none⟩)], .func (.func 85) #[] #[.pointer (some ⟨B + 6, 0, none⟩), .pointer (some ⟨B + 7, 0, none⟩), .pointer (some ⟨B + 8, 0, none⟩)], .func (.func 85) #[] #[.pointer (some ⟨B + 9, 0, none⟩), .pointer (some ⟨B + 10, 0, none⟩), .pointer (some ⟨B + 11, 0, none⟩)], .func (.func 85) #[] #[.pointer (some ⟨B + 12, 0, none⟩), .pointer (some ⟨B + 13, 0, none⟩), .pointer (some ⟨B + 14, 0, none⟩)], .func (.func 85) #[] #[.pointer (some ⟨B + 15, 0, none⟩), .pointer (some ⟨B + 16, 0, none⟩), .pointer (some ⟨B + 17, 0, none⟩)], .func (.func 85) #[] #[.pointer (some ⟨B + 18, 0, none⟩), .pointer (some ⟨B + 19, 0, none⟩), .pointer (some ⟨B + 20, 0, none⟩)], .func (.func 85) #[] #[.pointer (some ⟨B + 21, 0, none⟩), .pointer (some ⟨B + 22, 0, none⟩), .pointer (some ⟨B + 23, 0, none⟩)], .func (.func 85) #[] #[.pointer (some ⟨B + 24, 0, none⟩), .pointer (some ⟨B + 25, 0, none⟩), .pointer (some ⟨B + 26, 0, none⟩)], .func (.func 85) #[] #[.pointer (some ⟨B + 27, 0, none⟩), .pointer (some ⟨B + 28, 0, none⟩), .pointer (some ⟨B + 29, 0, none⟩)], .func (.func 85) #[] #[.pointer (some ⟨B + 30, 0, none⟩), .pointer (some ⟨B + 31, 0, none⟩), .pointer (some ⟨B + 32, 0, none⟩)], .func (.func 85) #[] #[.pointer (some ⟨B + 33, 0, none⟩), .pointer (some ⟨B + 34, 0, none⟩), .pointer (some ⟨B + 35, 0, none⟩)]]

def MtAt (w0 : World) (B k : Nat) (W : World) : Prop := W.heap.size = B + 1 + k ∧ Below (B + 1) w0 W ∧ ∀ i, i < k → W.cell? ⟨B + 1 + i, 0, none⟩ = some (mtCells.getD i undef)

/-- The closures' boxes are there. -/
def MtC (W : World) (B : Nat) : Prop := B + 36 ≤ W.heap.size ∧ ∀ i, i < 35 → W.cell? ⟨B + 1 + i, 0, none⟩ = some (mtCells.getD i undef)

theorem MtC.keep {W w1 : World} {B : Nat} (h : MtC W B) (hb : Below W.heap.size W w1) : MtC w1 B :=
  ⟨Nat.le_trans h.1 hb.size, fun i hi => (hb.cell (p := ⟨B + 1 + i, 0, none⟩) (by have := h.1; show B + 1 + i < W.heap.size; omega)).trans (h.2 i hi)⟩

theorem mt_alloc {w0 W : World} {B k : Nat} (h : MtAt w0 B k W) {v : Value} {t : TypeId} (hv : mtCells.getD k undef = v) : MtAt w0 B (k + 1) (W.alloc (.cells #[v] t)) := by
  obtain ⟨h1, h2, h3⟩ := h
  refine ⟨by simp [h1]; omega, h2.alloc (by omega) _, fun i hi => ?_⟩
  by_cases e : i = k
  · subst e
    rw [← h1, hv]
    simp
  · rw [((Below.refl W.heap.size W).alloc (Nat.le_refl _) (.cells #[v] t)).cell (p := ⟨B + 1 + i, 0, none⟩) (by show B + 1 + i < W.heap.size; omega)]
    exact h3 i (by omega)

theorem fix_step {w0 W : World} {B k b : Nat} (h : MtAt w0 B k W) (hb : b = B + 1 + k) {T : ByteArray} (hv : mtCells.getD k undef = .string T) :
    Calls Try.prog 61 #[.string T] W fun e W' => e = .returned (.func (.func 84) #[] #[.pointer (some ⟨b, 0, none⟩)]) ∧ MtAt w0 B (k + 1) W' := by
  obtain rfl : b = W.heap.size := by rw [hb, h.1]
  have hm := Lib.hid (mt_alloc (t := 9) h hv)
  clear h hv hb
  go_enter Try.func61, Try.ntmps61
  go_wp2
  go_ret
  exact ⟨rfl, hm.out⟩

theorem num_step {w0 W : World} {B k b c d : Nat} (h : MtAt w0 B k W) (hb : b = B + 1 + k) (hc : c = B + 1 + (k + 1)) (hd : d = B + 1 + (k + 2)) {T U : ByteArray} {n : Int} (hv : mtCells.getD k undef = .string T) (hv1 : mtCells.getD (k + 1) undef = .int .i64 n) (hv2 : mtCells.getD (k + 2) undef = .string U) :
    Calls Try.prog 62 #[.string T, .int .i64 n, .string U] W fun e W' => e = .returned (.func (.func 85) #[] #[.pointer (some ⟨b, 0, none⟩), .pointer (some ⟨c, 0, none⟩), .pointer (some ⟨d, 0, none⟩)]) ∧ MtAt w0 B (k + 3) W' := by
  obtain rfl : b = W.heap.size := by rw [hb, h.1]
  obtain rfl : c = W.heap.size + 1 := by rw [hc, h.1]; omega
  obtain rfl : d = W.heap.size + 1 + 1 := by rw [hd, h.1]; omega
  have hm := Lib.hid (mt_alloc (t := 9) (mt_alloc (t := 3) (mt_alloc (t := 9) h hv) hv1) hv2)
  clear h hv hv1 hv2 hb hc hd
  go_enter Try.func62, Try.ntmps62
  go_wp2
  go_ret
  exact ⟨by simp, hm.out⟩

theorem mt_set {W : World} {B o : Nat} {v : Value} (h : MtC W B) : MtC (W.setCell ⟨B, o, none⟩ v) B :=
  ⟨by simpa using h.1, fun i hi => (World.cell?_of_block (w := W) (a := ⟨B + 1 + i, 0, none⟩) (Below.heap_setCell W ⟨B, o, none⟩ v (B + 1 + i) (by show B + 1 + i ≠ B; omega))).trans (h.2 i hi)⟩

theorem mt_sets {B : Nat} : ∀ (vs : List Value) (o : Nat) {W : World}, MtC W B → MtC (W.setCells B o vs) B
  | [], _, _, h => h
  | _ :: r, o, _, h => mt_sets r (o + 1) (mt_set h)

theorem below_sets {B N : Nat} {w : World} : ∀ (vs : List Value) (o : Nat) {W : World}, N ≤ B → Below N w W → Below N w (W.setCells B o vs)
  | [], _, _, _, h => h
  | _ :: r, o, _, hB, h => below_sets r (o + 1) hB (h.setCell hB _)

def mtL (B : Nat) : List Value := [.func (.func 84) #[] #[.pointer (some ⟨B + 1, 0, none⟩)], .func (.func 84) #[] #[.pointer (some ⟨B + 2, 0, none⟩)], .func (.func 85) #[] #[.pointer (some ⟨B + 3, 0, none⟩), .pointer (some ⟨B + 4, 0, none⟩), .pointer (some ⟨B + 5, 0, none⟩)], .func (.func 85) #[] #[.pointer (some ⟨B + 6, 0, none⟩), .pointer (some ⟨B + 7, 0, none⟩), .pointer (some ⟨B + 8, 0, none⟩)], .func (.func 85) #[] #[.pointer (some ⟨B + 9, 0, none⟩), .pointer (some ⟨B + 10, 0, none⟩), .pointer (some ⟨B + 11, 0, none⟩)], .func (.func 85) #[] #[.pointer (some ⟨B + 12, 0, none⟩), .pointer (some ⟨B + 13, 0, none⟩), .pointer (some ⟨B + 14, 0, none⟩)], .func (.func 85) #[] #[.pointer (some ⟨B + 15, 0, none⟩), .pointer (some ⟨B + 16, 0, none⟩), .pointer (some ⟨B + 17, 0, none⟩)], .func (.func 85) #[] #[.pointer (some ⟨B + 18, 0, none⟩), .pointer (some ⟨B + 19, 0, none⟩), .pointer (some ⟨B + 20, 0, none⟩)], .func (.func 85) #[] #[.pointer (some ⟨B + 21, 0, none⟩), .pointer (some ⟨B + 22, 0, none⟩), .pointer (some ⟨B + 23, 0, none⟩)], .func (.func 85) #[] #[.pointer (some ⟨B + 24, 0, none⟩), .pointer (some ⟨B + 25, 0, none⟩), .pointer (some ⟨B + 26, 0, none⟩)], .func (.func 85) #[] #[.pointer (some ⟨B + 27, 0, none⟩), .pointer (some ⟨B + 28, 0, none⟩), .pointer (some ⟨B + 29, 0, none⟩)], .func (.func 85) #[] #[.pointer (some ⟨B + 30, 0, none⟩), .pointer (some ⟨B + 31, 0, none⟩), .pointer (some ⟨B + 32, 0, none⟩)], .func (.func 85) #[] #[.pointer (some ⟨B + 33, 0, none⟩), .pointer (some ⟨B + 34, 0, none⟩), .pointer (some ⟨B + 35, 0, none⟩)]]

set_option maxRecDepth 100000 in
theorem agg13 (W : World) (B : Nat) (tmps : Array Value) (v0 v1 v2 v3 v4 v5 v6 v7 v8 v9 v10 v11 v12 : Value) (h0 : tmps.getD 0 undef = .pointer (some ⟨B, 0, none⟩)) (c0 : W.cell? ⟨B, 0, none⟩ = some v0) (c1 : W.cell? ⟨B, 1, none⟩ = some v1) (c2 : W.cell? ⟨B, 2, none⟩ = some v2) (c3 : W.cell? ⟨B, 3, none⟩ = some v3) (c4 : W.cell? ⟨B, 4, none⟩ = some v4) (c5 : W.cell? ⟨B, 5, none⟩ = some v5) (c6 : W.cell? ⟨B, 6, none⟩ = some v6) (c7 : W.cell? ⟨B, 7, none⟩ = some v7) (c8 : W.cell? ⟨B, 8, none⟩ = some v8) (c9 : W.cell? ⟨B, 9, none⟩ = some v9) (c10 : W.cell? ⟨B, 10, none⟩ = some v10) (c11 : W.cell? ⟨B, 11, none⟩ = some v11) (c12 : W.cell? ⟨B, 12, none⟩ = some v12) :
    (results Try.f33 tmps).run Try.prog W = .ok (.agg #[v0, v1, v2, v3, v4, v5, v6, v7, v8, v9, v10, v11, v12]) W := by
  simp only [Array.getD_eq_getD_getElem?] at h0
  simp [results, Try.results33, go_sem, h0, c0, c1, c2, c3, c4, c5, c6, c7, c8, c9, c10, c11, c12]

set_option maxRecDepth 100000 in
set_option maxHeartbeats 4000000 in
theorem modeTexts_any (w : World) :
    Calls Try.prog 33 #[] w fun e w' => e = .returned (mtV w.heap.size) ∧ Below w.heap.size w w' ∧ MtC w' w.heap.size := by
  have M : MtAt (w.alloc (.cells #[.nilFunc, .nilFunc, .nilFunc, .nilFunc, .nilFunc, .nilFunc, .nilFunc, .nilFunc, .nilFunc, .nilFunc, .nilFunc, .nilFunc, .nilFunc] 52)) w.heap.size 0 (w.alloc (.cells #[.nilFunc, .nilFunc, .nilFunc, .nilFunc, .nilFunc, .nilFunc, .nilFunc, .nilFunc, .nilFunc, .nilFunc, .nilFunc, .nilFunc, .nilFunc] 52)) := ⟨by simp, Below.refl _ _, fun i hi => absurd hi (Nat.not_lt_zero i)⟩
  go_enter Try.func33, Try.ntmps33
  go_wp2_with fail
  refine (fix_step (b := w.heap.size + 1) M (by omega) rfl).mono ?_
  clear M
  rintro e w1 ⟨rfl, M⟩
  go_wp2_with fail
  refine (fix_step (b := w.heap.size + 2) M (by omega) rfl).mono ?_
  clear M
  rintro e w2 ⟨rfl, M⟩
  go_wp2_with fail
  refine (num_step (b := w.heap.size + 3) (c := w.heap.size + 4) (d := w.heap.size + 5) M (by omega) (by omega) (by omega) rfl rfl rfl).mono ?_
  clear M
  rintro e w3 ⟨rfl, M⟩
  go_wp2_with fail
  refine (num_step (b := w.heap.size + 6) (c := w.heap.size + 7) (d := w.heap.size + 8) M (by omega) (by omega) (by omega) rfl rfl rfl).mono ?_
  clear M
  rintro e w4 ⟨rfl, M⟩
  go_wp2_with fail
  refine (num_step (b := w.heap.size + 9) (c := w.heap.size + 10) (d := w.heap.size + 11) M (by omega) (by omega) (by omega) rfl rfl rfl).mono ?_
  clear M
  rintro e w5 ⟨rfl, M⟩
  go_wp2_with fail
  refine (num_step (b := w.heap.size + 12) (c := w.heap.size + 13) (d := w.heap.size + 14) M (by omega) (by omega) (by omega) rfl rfl rfl).mono ?_
  clear M
  rintro e w6 ⟨rfl, M⟩
  go_wp2_with fail
  refine (num_step (b := w.heap.size + 15) (c := w.heap.size + 16) (d := w.heap.size + 17) M (by omega) (by omega) (by omega) rfl rfl rfl).mono ?_
  clear M
  rintro e w7 ⟨rfl, M⟩
  go_wp2_with fail
  refine (num_step (b := w.heap.size + 18) (c := w.heap.size + 19) (d := w.heap.size + 20) M (by omega) (by omega) (by omega) rfl rfl rfl).mono ?_
  clear M
  rintro e w8 ⟨rfl, M⟩
  go_wp2_with fail
  refine (num_step (b := w.heap.size + 21) (c := w.heap.size + 22) (d := w.heap.size + 23) M (by omega) (by omega) (by omega) rfl rfl rfl).mono ?_
  clear M
  rintro e w9 ⟨rfl, M⟩
  go_wp2_with fail
  refine (num_step (b := w.heap.size + 24) (c := w.heap.size + 25) (d := w.heap.size + 26) M (by omega) (by omega) (by omega) rfl rfl rfl).mono ?_
  clear M
  rintro e w10 ⟨rfl, M⟩
  go_wp2_with fail
  refine (num_step (b := w.heap.size + 27) (c := w.heap.size + 28) (d := w.heap.size + 29) M (by omega) (by omega) (by omega) rfl rfl rfl).mono ?_
  clear M
  rintro e w11 ⟨rfl, M⟩
  go_wp2_with fail
  refine (num_step (b := w.heap.size + 30) (c := w.heap.size + 31) (d := w.heap.size + 32) M (by omega) (by omega) (by omega) rfl rfl rfl).mono ?_
  clear M
  rintro e w12 ⟨rfl, M⟩
  go_wp2_with fail
  refine (num_step (b := w.heap.size + 33) (c := w.heap.size + 34) (d := w.heap.size + 35) M (by omega) (by omega) (by omega) rfl rfl rfl).mono ?_
  clear M
  rintro e w13 ⟨rfl, M⟩
  obtain ⟨hsz, hbl, hcl⟩ := M
  have hz : w.heap.size < w13.heap.size := by omega
  have c0 : w13.cell? ⟨w.heap.size, 0, none⟩ = some .nilFunc := (hbl.cell (p := ⟨w.heap.size, 0, none⟩) (Nat.lt_succ_self _)).trans (by simp)
  have f0 : w13.frozen? ⟨w.heap.size, 0, none⟩ = false := (hbl.frozen (p := ⟨w.heap.size, 0, none⟩) (Nat.lt_succ_self _)).trans (by simp)
  have c1 : w13.cell? ⟨w.heap.size, 1, none⟩ = some .nilFunc := (hbl.cell (p := ⟨w.heap.size, 1, none⟩) (Nat.lt_succ_self _)).trans (by simp)
  have f1 : w13.frozen? ⟨w.heap.size, 1, none⟩ = false := (hbl.frozen (p := ⟨w.heap.size, 1, none⟩) (Nat.lt_succ_self _)).trans (by simp)
  have c2 : w13.cell? ⟨w.heap.size, 2, none⟩ = some .nilFunc := (hbl.cell (p := ⟨w.heap.size, 2, none⟩) (Nat.lt_succ_self _)).trans (by simp)
  have f2 : w13.frozen? ⟨w.heap.size, 2, none⟩ = false := (hbl.frozen (p := ⟨w.heap.size, 2, none⟩) (Nat.lt_succ_self _)).trans (by simp)
  have c3 : w13.cell? ⟨w.heap.size, 3, none⟩ = some .nilFunc := (hbl.cell (p := ⟨w.heap.size, 3, none⟩) (Nat.lt_succ_self _)).trans (by simp)
  have f3 : w13.frozen? ⟨w.heap.size, 3, none⟩ = false := (hbl.frozen (p := ⟨w.heap.size, 3, none⟩) (Nat.lt_succ_self _)).trans (by simp)
  have c4 : w13.cell? ⟨w.heap.size, 4, none⟩ = some .nilFunc := (hbl.cell (p := ⟨w.heap.size, 4, none⟩) (Nat.lt_succ_self _)).trans (by simp)
  have f4 : w13.frozen? ⟨w.heap.size, 4, none⟩ = false := (hbl.frozen (p := ⟨w.heap.size, 4, none⟩) (Nat.lt_succ_self _)).trans (by simp)
  have c5 : w13.cell? ⟨w.heap.size, 5, none⟩ = some .nilFunc := (hbl.cell (p := ⟨w.heap.size, 5, none⟩) (Nat.lt_succ_self _)).trans (by simp)
  have f5 : w13.frozen? ⟨w.heap.size, 5, none⟩ = false := (hbl.frozen (p := ⟨w.heap.size, 5, none⟩) (Nat.lt_succ_self _)).trans (by simp)
  have c6 : w13.cell? ⟨w.heap.size, 6, none⟩ = some .nilFunc := (hbl.cell (p := ⟨w.heap.size, 6, none⟩) (Nat.lt_succ_self _)).trans (by simp)
  have f6 : w13.frozen? ⟨w.heap.size, 6, none⟩ = false := (hbl.frozen (p := ⟨w.heap.size, 6, none⟩) (Nat.lt_succ_self _)).trans (by simp)
  have c7 : w13.cell? ⟨w.heap.size, 7, none⟩ = some .nilFunc := (hbl.cell (p := ⟨w.heap.size, 7, none⟩) (Nat.lt_succ_self _)).trans (by simp)
  have f7 : w13.frozen? ⟨w.heap.size, 7, none⟩ = false := (hbl.frozen (p := ⟨w.heap.size, 7, none⟩) (Nat.lt_succ_self _)).trans (by simp)
  have c8 : w13.cell? ⟨w.heap.size, 8, none⟩ = some .nilFunc := (hbl.cell (p := ⟨w.heap.size, 8, none⟩) (Nat.lt_succ_self _)).trans (by simp)
  have f8 : w13.frozen? ⟨w.heap.size, 8, none⟩ = false := (hbl.frozen (p := ⟨w.heap.size, 8, none⟩) (Nat.lt_succ_self _)).trans (by simp)
  have c9 : w13.cell? ⟨w.heap.size, 9, none⟩ = some .nilFunc := (hbl.cell (p := ⟨w.heap.size, 9, none⟩) (Nat.lt_succ_self _)).trans (by simp)
  have f9 : w13.frozen? ⟨w.heap.size, 9, none⟩ = false := (hbl.frozen (p := ⟨w.heap.size, 9, none⟩) (Nat.lt_succ_self _)).trans (by simp)
  have c10 : w13.cell? ⟨w.heap.size, 10, none⟩ = some .nilFunc := (hbl.cell (p := ⟨w.heap.size, 10, none⟩) (Nat.lt_succ_self _)).trans (by simp)
  have f10 : w13.frozen? ⟨w.heap.size, 10, none⟩ = false := (hbl.frozen (p := ⟨w.heap.size, 10, none⟩) (Nat.lt_succ_self _)).trans (by simp)
  have c11 : w13.cell? ⟨w.heap.size, 11, none⟩ = some .nilFunc := (hbl.cell (p := ⟨w.heap.size, 11, none⟩) (Nat.lt_succ_self _)).trans (by simp)
  have f11 : w13.frozen? ⟨w.heap.size, 11, none⟩ = false := (hbl.frozen (p := ⟨w.heap.size, 11, none⟩) (Nat.lt_succ_self _)).trans (by simp)
  have c12 : w13.cell? ⟨w.heap.size, 12, none⟩ = some .nilFunc := (hbl.cell (p := ⟨w.heap.size, 12, none⟩) (Nat.lt_succ_self _)).trans (by simp)
  have f12 : w13.frozen? ⟨w.heap.size, 12, none⟩ = false := (hbl.frozen (p := ⟨w.heap.size, 12, none⟩) (Nat.lt_succ_self _)).trans (by simp)
  have HM : Hid (MtC w13 w.heap.size) := Lib.hid ⟨by omega, hcl⟩
  have HB : Hid (Below w.heap.size w w13) := Lib.hid (((Below.refl _ _).alloc (Nat.le_refl _) _).trans (hbl.mono (Nat.le_succ _)))
  have HT : Hid (∀ j, j < 13 → (w13.cell? ⟨w.heap.size, 0 + j, none⟩).isSome = true) := Lib.hid (by
    intro j hj
    rcases j with _ | _ | _ | _ | _ | _ | _ | _ | _ | _ | _ | _ | _ | j <;> first | omega | simp [c0, c1, c2, c3, c4, c5, c6, c7, c8, c9, c10, c11, c12])
  clear hcl hbl
  go_wp2
  have hin := World.cell?_setCells_in w.heap.size (mtL w.heap.size) 0 w13 (fun j hj => HT.out j hj)
  refine bodyPost_ret (v := mtV w.heap.size) (agg13 (w13.setCells w.heap.size 0 (mtL w.heap.size)) w.heap.size _ _ _ _ _ _ _ _ _ _ _ _ _ _ rfl (hin 0 (by show 0 < 13; omega)) (hin 1 (by show 1 < 13; omega)) (hin 2 (by show 2 < 13; omega)) (hin 3 (by show 3 < 13; omega)) (hin 4 (by show 4 < 13; omega)) (hin 5 (by show 5 < 13; omega)) (hin 6 (by show 6 < 13; omega)) (hin 7 (by show 7 < 13; omega)) (hin 8 (by show 8 < 13; omega)) (hin 9 (by show 9 < 13; omega)) (hin 10 (by show 10 < 13; omega)) (hin 11 (by show 11 < 13; omega)) (hin 12 (by show 12 < 13; omega))) rfl ⟨rfl, ?_, ?_⟩
  · exact below_sets (mtL w.heap.size) 0 (Nat.le_refl _) HB.out
  · exact mt_sets (mtL w.heap.size) 0 HM.out

end Go.Proofs.Ytffhjoldiicgdaa
