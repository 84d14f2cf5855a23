/-
  Contracts over the program: impl's operations by their rules: modes, sizes and kinds.
-/
import Derived.Test.YtblchdmemhhcbaaGreatQStepOpC
namespace Go.Proofs.YtblchdmemhhcbaaGreat
set_option linter.unusedVariables false
set_option linter.unusedSimpArgs false
open Go.RowKit

def im0r : Nat → Int
  | 0 => 0
  | 1 => 6
  | 2 => 0
  | 3 => 0
  | 4 => -1
  | 5 => 2
  | 6 => 2
  | _ => 2

def im0p : Nat → Int
  | 0 => -1
  | 1 => 3
  | 2 => 0
  | 3 => 6
  | 4 => 12
  | 5 => 4
  | 6 => 0
  | _ => 7

def im2p : Nat → Int
  | 0 => 2
  | 1 => 3
  | 2 => 0
  | 3 => 6
  | 4 => -1
  | 5 => 4
  | 6 => 0
  | _ => 7

def im0 (r p : Nat) : Int := if p = 0 then im0r r else if p = 3 ∧ r = 3 then 9 else im0p p

def im2 (r p : Nat) : Int := if p = 2 ∧ r < 4 then 1 else if p = 5 ∧ (r = 4 ∨ r = 5) then 5 else if p = 7 ∧ (r = 4 ∨ r = 5) then 8 else im2p p

def imAt (r p s : Nat) : Int := if s = 0 then im0 r p else if s = 1 then oneMode p else im2 r p

theorem imAt_op {b : Nat} (hb : b < 256) (h : opId b ≠ 0) : imAt (b / 32) (b / 4 % 8) (b % 4) = opMode b := by
  have := byte_all (p := fun b => opId b = 0 ∨ imAt (b / 32) (b / 4 % 8) (b % 4) = opMode b) (by decide +kernel) hb
  rcases this with h0 | h0
  · exact absurd h0 h
  · exact h0

set_option maxRecDepth 100000 in
theorem implSizeM_any (m : Int) (w : World) :
    Calls Tryz.prog 72 #[.int .i64 m] w fun e w' => e = .returned (.int .i64 (sizeOfM m)) ∧ w = w' := by
  go_enter Tryz.func72, Tryz.ntmps72
  go_wp2
  all_goals go_ret
  all_goals refine ⟨?_, rfl⟩
  all_goals simp_all [sizeOfM]

set_option maxRecDepth 100000 in
set_option maxHeartbeats 4000000 in
theorem implKindM_any (s : ByteArray) (m : Int) (w : World) :
    Calls Tryz.prog 107 #[.string s, .int .i64 m] w fun e w' => e = .returned (.int .i64 (kindM s.toList m)) ∧ w = w' := by
  go_enter Tryz.func107, Tryz.ntmps107
  go_wp2
  all_goals go_ret
  all_goals refine ⟨?_, rfl⟩
  all_goals simp_all [kindM]

set_option maxRecDepth 100000 in
set_option maxHeartbeats 4000000 in
theorem implKindN_any (s : ByteArray) (m : Int) (w : World) :
    Calls Tryz.prog 73 #[.string s, .int .i64 m] w fun e w' => e = .returned (.int .i64 (kindN s.toList m)) ∧ w = w' := by
  go_enter Tryz.func73, Tryz.ntmps73
  go_wp2_with (go_at_call 107; refine (implKindM_any _ _ _).mono ?_; rintro e w' ⟨rfl, rfl⟩)
  all_goals go_ret
  all_goals refine ⟨?_, rfl⟩
  all_goals simp_all [kindN]

set_option maxRecDepth 100000 in
theorem implMode0_any (r p : Nat) (hr : r < 8) (hp : p < 8) (w : World) :
    Calls Tryz.prog 105 #[.int .i64 r, .int .i64 p] w fun e w' => e = .returned (.int .i64 (im0 r p)) ∧ w = w' := by
  have hT : ∀ w : World, (Instr.index 141 (.agg #[.int .i64 0, .int .i64 6, .int .i64 0, .int .i64 0, .int .i64 (-1), .int .i64 2, .int .i64 2, .int .i64 2]) (.int .i64 r)).run Tryz.prog w = .ok (.int .i64 (im0r r)) w := by
    intro w
    rcases r with _ | _ | _ | _ | _ | _ | _ | _ | r <;> first | omega | kernel_rfl
  have hP : ∀ w : World, (Instr.index 141 (.agg #[.int .i64 (-1), .int .i64 3, .int .i64 0, .int .i64 6, .int .i64 12, .int .i64 4, .int .i64 0, .int .i64 7]) (.int .i64 p)).run Tryz.prog w = .ok (.int .i64 (im0p p)) w := by
    intro w
    rcases p with _ | _ | _ | _ | _ | _ | _ | _ | p <;> first | omega | kernel_rfl
  cases k0 : ((p : Int) == 0) with
  | true =>
    have h0 : p = 0 := by simp at k0; omega
    go_enter Tryz.func105, Tryz.ntmps105
    go_wp2
    go_ret
    exact ⟨by simp [im0, h0], rfl⟩
  | false =>
    have h0 : ¬ p = 0 := by simp at k0; omega
    cases k3 : ((p : Int) == 3) with
    | true =>
      cases g3 : ((r : Int) == 3) with
      | true =>
        have h3 : p = 3 := by simp at k3; omega
        have j3 : r = 3 := by simp at g3; omega
        go_enter Tryz.func105, Tryz.ntmps105
        go_wp2
        go_ret
        exact ⟨by simp [im0, h3, j3], rfl⟩
      | false =>
        have j3 : ¬ r = 3 := by simp at g3; omega
        go_enter Tryz.func105, Tryz.ntmps105
        go_wp2
        go_ret
        exact ⟨by simp [im0, h0, j3], rfl⟩
    | false =>
      have h3 : ¬ p = 3 := by simp at k3; omega
      go_enter Tryz.func105, Tryz.ntmps105
      go_wp2
      go_ret
      exact ⟨by simp [im0, h0, h3], rfl⟩

set_option maxRecDepth 100000 in
theorem implMode2_24 (r p : Nat) (hp : p < 8) (k0 : ((r : Int) == 4) = true) (k1 : ((p : Int) == 2) = true) (k2 : ¬ (r : Int) < 4) (k3 : ((p : Int) == 5) = false) (k4 : ((p : Int) == 7) = false) (w : World) :
    Calls Tryz.prog 106 #[.int .i64 r, .int .i64 p] w fun e w' => e = .returned (.int .i64 (im2p p)) ∧ w = w' := by
  have hP : ∀ w : World, (Instr.index 141 (.agg #[.int .i64 2, .int .i64 3, .int .i64 0, .int .i64 6, .int .i64 (-1), .int .i64 4, .int .i64 0, .int .i64 7]) (.int .i64 p)).run Tryz.prog w = .ok (.int .i64 (im2p p)) w := by
    intro w
    rcases p with _ | _ | _ | _ | _ | _ | _ | _ | p <;> first | omega | kernel_rfl
  go_enter Tryz.func106, Tryz.ntmps106
  go_wp2
  all_goals go_ret
  all_goals exact ⟨rfl, rfl⟩

set_option maxRecDepth 100000 in
theorem implMode2_54 (r p : Nat) (hp : p < 8) (k0 : ((r : Int) == 4) = true) (k1 : ((p : Int) == 2) = false) (k2 : ((p : Int) == 5) = true) (w : World) :
    Calls Tryz.prog 106 #[.int .i64 r, .int .i64 p] w fun e w' => e = .returned (.int .i64 (5)) ∧ w = w' := by
  go_enter Tryz.func106, Tryz.ntmps106
  go_wp2
  all_goals go_ret
  all_goals exact ⟨rfl, rfl⟩

set_option maxRecDepth 100000 in
theorem implMode2_74 (r p : Nat) (hp : p < 8) (k0 : ((r : Int) == 4) = true) (k1 : ((p : Int) == 2) = false) (k2 : ((p : Int) == 5) = false) (k3 : ((p : Int) == 7) = true) (w : World) :
    Calls Tryz.prog 106 #[.int .i64 r, .int .i64 p] w fun e w' => e = .returned (.int .i64 (8)) ∧ w = w' := by
  go_enter Tryz.func106, Tryz.ntmps106
  go_wp2
  all_goals go_ret
  all_goals exact ⟨rfl, rfl⟩

set_option maxRecDepth 100000 in
theorem implMode2_o4 (r p : Nat) (hp : p < 8) (k0 : ((r : Int) == 4) = true) (k1 : ((p : Int) == 2) = false) (k2 : ((p : Int) == 5) = false) (k3 : ((p : Int) == 7) = false) (w : World) :
    Calls Tryz.prog 106 #[.int .i64 r, .int .i64 p] w fun e w' => e = .returned (.int .i64 (im2p p)) ∧ w = w' := by
  have hP : ∀ w : World, (Instr.index 141 (.agg #[.int .i64 2, .int .i64 3, .int .i64 0, .int .i64 6, .int .i64 (-1), .int .i64 4, .int .i64 0, .int .i64 7]) (.int .i64 p)).run Tryz.prog w = .ok (.int .i64 (im2p p)) w := by
    intro w
    rcases p with _ | _ | _ | _ | _ | _ | _ | _ | p <;> first | omega | kernel_rfl
  go_enter Tryz.func106, Tryz.ntmps106
  go_wp2
  all_goals go_ret
  all_goals exact ⟨rfl, rfl⟩

set_option maxRecDepth 100000 in
theorem implMode2_25 (r p : Nat) (hp : p < 8) (k0 : ((r : Int) == 4) = false) (k1 : ((r : Int) == 5) = true) (k2 : ((p : Int) == 2) = true) (k3 : ¬ (r : Int) < 4) (k4 : ((p : Int) == 5) = false) (k5 : ((p : Int) == 7) = false) (w : World) :
    Calls Tryz.prog 106 #[.int .i64 r, .int .i64 p] w fun e w' => e = .returned (.int .i64 (im2p p)) ∧ w = w' := by
  have hP : ∀ w : World, (Instr.index 141 (.agg #[.int .i64 2, .int .i64 3, .int .i64 0, .int .i64 6, .int .i64 (-1), .int .i64 4, .int .i64 0, .int .i64 7]) (.int .i64 p)).run Tryz.prog w = .ok (.int .i64 (im2p p)) w := by
    intro w
    rcases p with _ | _ | _ | _ | _ | _ | _ | _ | p <;> first | omega | kernel_rfl
  go_enter Tryz.func106, Tryz.ntmps106
  go_wp2
  all_goals go_ret
  all_goals exact ⟨rfl, rfl⟩

set_option maxRecDepth 100000 in
theorem implMode2_55 (r p : Nat) (hp : p < 8) (k0 : ((r : Int) == 4) = false) (k1 : ((r : Int) == 5) = true) (k2 : ((p : Int) == 2) = false) (k3 : ((p : Int) == 5) = true) (w : World) :
    Calls Tryz.prog 106 #[.int .i64 r, .int .i64 p] w fun e w' => e = .returned (.int .i64 (5)) ∧ w = w' := by
  go_enter Tryz.func106, Tryz.ntmps106
  go_wp2
  all_goals go_ret
  all_goals exact ⟨rfl, rfl⟩

set_option maxRecDepth 100000 in
theorem implMode2_75 (r p : Nat) (hp : p < 8) (k0 : ((r : Int) == 4) = false) (k1 : ((r : Int) == 5) = true) (k2 : ((p : Int) == 2) = false) (k3 : ((p : Int) == 5) = false) (k4 : ((p : Int) == 7) = true) (w : World) :
    Calls Tryz.prog 106 #[.int .i64 r, .int .i64 p] w fun e w' => e = .returned (.int .i64 (8)) ∧ w = w' := by
  go_enter Tryz.func106, Tryz.ntmps106
  go_wp2
  all_goals go_ret
  all_goals exact ⟨rfl, rfl⟩

set_option maxRecDepth 100000 in
theorem implMode2_o5 (r p : Nat) (hp : p < 8) (k0 : ((r : Int) == 4) = false) (k1 : ((r : Int) == 5) = true) (k2 : ((p : Int) == 2) = false) (k3 : ((p : Int) == 5) = false) (k4 : ((p : Int) == 7) = false) (w : World) :
    Calls Tryz.prog 106 #[.int .i64 r, .int .i64 p] w fun e w' => e = .returned (.int .i64 (im2p p)) ∧ w = w' := by
  have hP : ∀ w : World, (Instr.index 141 (.agg #[.int .i64 2, .int .i64 3, .int .i64 0, .int .i64 6, .int .i64 (-1), .int .i64 4, .int .i64 0, .int .i64 7]) (.int .i64 p)).run Tryz.prog w = .ok (.int .i64 (im2p p)) w := by
    intro w
    rcases p with _ | _ | _ | _ | _ | _ | _ | _ | p <;> first | omega | kernel_rfl
  go_enter Tryz.func106, Tryz.ntmps106
  go_wp2
  all_goals go_ret
  all_goals exact ⟨rfl, rfl⟩

set_option maxRecDepth 100000 in
theorem implMode2_2y (r p : Nat) (hp : p < 8) (k0 : ((r : Int) == 4) = false) (k1 : ((r : Int) == 5) = false) (k2 : ((p : Int) == 2) = true) (k3 : (r : Int) < 4) (w : World) :
    Calls Tryz.prog 106 #[.int .i64 r, .int .i64 p] w fun e w' => e = .returned (.int .i64 (1)) ∧ w = w' := by
  go_enter Tryz.func106, Tryz.ntmps106
  go_wp2
  all_goals go_ret
  all_goals exact ⟨rfl, rfl⟩

set_option maxRecDepth 100000 in
theorem implMode2_2n (r p : Nat) (hp : p < 8) (k0 : ((r : Int) == 4) = false) (k1 : ((r : Int) == 5) = false) (k2 : ((p : Int) == 2) = true) (k3 : ¬ (r : Int) < 4) (k4 : ((p : Int) == 5) = false) (k5 : ((p : Int) == 7) = false) (w : World) :
    Calls Tryz.prog 106 #[.int .i64 r, .int .i64 p] w fun e w' => e = .returned (.int .i64 (im2p p)) ∧ w = w' := by
  have hP : ∀ w : World, (Instr.index 141 (.agg #[.int .i64 2, .int .i64 3, .int .i64 0, .int .i64 6, .int .i64 (-1), .int .i64 4, .int .i64 0, .int .i64 7]) (.int .i64 p)).run Tryz.prog w = .ok (.int .i64 (im2p p)) w := by
    intro w
    rcases p with _ | _ | _ | _ | _ | _ | _ | _ | p <;> first | omega | kernel_rfl
  go_enter Tryz.func106, Tryz.ntmps106
  go_wp2
  all_goals go_ret
  all_goals exact ⟨rfl, rfl⟩

set_option maxRecDepth 100000 in
theorem implMode2_5n (r p : Nat) (hp : p < 8) (k0 : ((r : Int) == 4) = false) (k1 : ((r : Int) == 5) = false) (k2 : ((p : Int) == 2) = false) (k3 : ((p : Int) == 5) = true) (k4 : ((p : Int) == 7) = false) (w : World) :
    Calls Tryz.prog 106 #[.int .i64 r, .int .i64 p] w fun e w' => e = .returned (.int .i64 (im2p p)) ∧ w = w' := by
  have hP : ∀ w : World, (Instr.index 141 (.agg #[.int .i64 2, .int .i64 3, .int .i64 0, .int .i64 6, .int .i64 (-1), .int .i64 4, .int .i64 0, .int .i64 7]) (.int .i64 p)).run Tryz.prog w = .ok (.int .i64 (im2p p)) w := by
    intro w
    rcases p with _ | _ | _ | _ | _ | _ | _ | _ | p <;> first | omega | kernel_rfl
  go_enter Tryz.func106, Tryz.ntmps106
  go_wp2
  all_goals go_ret
  all_goals exact ⟨rfl, rfl⟩

set_option maxRecDepth 100000 in
theorem implMode2_7n (r p : Nat) (hp : p < 8) (k0 : ((r : Int) == 4) = false) (k1 : ((r : Int) == 5) = false) (k2 : ((p : Int) == 2) = false) (k3 : ((p : Int) == 5) = false) (k4 : ((p : Int) == 7) = true) (w : World) :
    Calls Tryz.prog 106 #[.int .i64 r, .int .i64 p] w fun e w' => e = .returned (.int .i64 (im2p p)) ∧ w = w' := by
  have hP : ∀ w : World, (Instr.index 141 (.agg #[.int .i64 2, .int .i64 3, .int .i64 0, .int .i64 6, .int .i64 (-1), .int .i64 4, .int .i64 0, .int .i64 7]) (.int .i64 p)).run Tryz.prog w = .ok (.int .i64 (im2p p)) w := by
    intro w
    rcases p with _ | _ | _ | _ | _ | _ | _ | _ | p <;> first | omega | kernel_rfl
  go_enter Tryz.func106, Tryz.ntmps106
  go_wp2
  all_goals go_ret
  all_goals exact ⟨rfl, rfl⟩

set_option maxRecDepth 100000 in
theorem implMode2_on (r p : Nat) (hp : p < 8) (k0 : ((r : Int) == 4) = false) (k1 : ((r : Int) == 5) = false) (k2 : ((p : Int) == 2) = false) (k3 : ((p : Int) == 5) = false) (k4 : ((p : Int) == 7) = false) (w : World) :
    Calls Tryz.prog 106 #[.int .i64 r, .int .i64 p] w fun e w' => e = .returned (.int .i64 (im2p p)) ∧ w = w' := by
  have hP : ∀ w : World, (Instr.index 141 (.agg #[.int .i64 2, .int .i64 3, .int .i64 0, .int .i64 6, .int .i64 (-1), .int .i64 4, .int .i64 0, .int .i64 7]) (.int .i64 p)).run Tryz.prog w = .ok (.int .i64 (im2p p)) w := by
    intro w
    rcases p with _ | _ | _ | _ | _ | _ | _ | _ | p <;> first | omega | kernel_rfl
  go_enter Tryz.func106, Tryz.ntmps106
  go_wp2
  all_goals go_ret
  all_goals exact ⟨rfl, rfl⟩

theorem implMode2_any (r p : Nat) (_hr : r < 8) (hp : p < 8) (w : World) :
    Calls Tryz.prog 106 #[.int .i64 r, .int .i64 p] w fun e w' => e = .returned (.int .i64 (im2 r p)) ∧ w = w' := by
  by_cases h4 : r = 4
  · by_cases p2 : p = 2
    · simpa [im2, h4, p2] using implMode2_24 r p hp (by simp; omega) (by simp; omega) (by omega) (by simp; omega) (by simp; omega) w
    by_cases p5 : p = 5
    · simpa [im2, h4, p5] using implMode2_54 r p hp (by simp; omega) (by simp; omega) (by simp; omega) w
    by_cases p7 : p = 7
    · simpa [im2, h4, p7] using implMode2_74 r p hp (by simp; omega) (by simp; omega) (by simp; omega) (by simp; omega) w
    · simpa [im2, h4, p2, p5, p7] using implMode2_o4 r p hp (by simp; omega) (by simp; omega) (by simp; omega) (by simp; omega) w
  by_cases h5 : r = 5
  · by_cases p2 : p = 2
    · simpa [im2, h5, p2] using implMode2_25 r p hp (by simp; omega) (by simp; omega) (by simp; omega) (by omega) (by simp; omega) (by simp; omega) w
    by_cases p5 : p = 5
    · simpa [im2, h5, p5] using implMode2_55 r p hp (by simp; omega) (by simp; omega) (by simp; omega) (by simp; omega) w
    by_cases p7 : p = 7
    · simpa [im2, h5, p7] using implMode2_75 r p hp (by simp; omega) (by simp; omega) (by simp; omega) (by simp; omega) (by simp; omega) w
    · simpa [im2, h5, p2, p5, p7] using implMode2_o5 r p hp (by simp; omega) (by simp; omega) (by simp; omega) (by simp; omega) (by simp; omega) w
  by_cases p2 : p = 2
  · by_cases hl : r < 4
    · simpa [im2, hl, p2] using implMode2_2y r p hp (by simp; omega) (by simp; omega) (by simp; omega) (by omega) w
    · simpa [im2, hl, p2] using implMode2_2n r p hp (by simp; omega) (by simp; omega) (by simp; omega) (by omega) (by simp; omega) (by simp; omega) w
  by_cases p5 : p = 5
  · simpa [im2, h4, h5, p5] using implMode2_5n r p hp (by simp; omega) (by simp; omega) (by simp; omega) (by simp; omega) (by simp; omega) w
  by_cases p7 : p = 7
  · simpa [im2, h4, h5, p7] using implMode2_7n r p hp (by simp; omega) (by simp; omega) (by simp; omega) (by simp; omega) (by simp; omega) w
  · simpa [im2, h4, h5, p2, p5, p7] using implMode2_on r p hp (by simp; omega) (by simp; omega) (by simp; omega) (by simp; omega) (by simp; omega) w

set_option maxRecDepth 100000 in
theorem implModeAt_any (r p s : Nat) (hr : r < 8) (hp : p < 8) (w : World) :
    Calls Tryz.prog 71 #[.int .i64 r, .int .i64 p, .int .i64 s] w fun e w' => e = .returned (.int .i64 (imAt r p s)) ∧ w = w' := by
  have hP : ∀ w : World, (Instr.index 141 (.agg #[.int .i64 10, .int .i64 3, .int .i64 2, .int .i64 6, .int .i64 11, .int .i64 4, .int .i64 8, .int .i64 7]) (.int .i64 p)).run Tryz.prog w = .ok (.int .i64 (oneMode p)) w := by
    intro w
    rcases p with _ | _ | _ | _ | _ | _ | _ | _ | p <;> first | omega | kernel_rfl
  cases k0 : ((s : Int) == 0) with
  | true =>
    have h0 : s = 0 := by simp at k0; omega
    go_enter Tryz.func71, Tryz.ntmps71
    go_wp2_with fail
    refine (implMode0_any r p hr hp _).mono ?_
    rintro e w' ⟨rfl, rfl⟩
    go_wp2
    go_ret
    exact ⟨by simp [imAt, h0], rfl⟩
  | false =>
    have h0 : ¬ s = 0 := by simp at k0; omega
    cases k1 : ((s : Int) == 1) with
    | true =>
      have h1 : s = 1 := by simp at k1; omega
      go_enter Tryz.func71, Tryz.ntmps71
      go_wp2
      go_ret
      exact ⟨by simp [imAt, h1], rfl⟩
    | false =>
      have h1 : ¬ s = 1 := by simp at k1; omega
      go_enter Tryz.func71, Tryz.ntmps71
      go_wp2_with fail
      refine (implMode2_any r p hr hp _).mono ?_
      rintro e w' ⟨rfl, rfl⟩
      go_wp2
      go_ret
      exact ⟨by simp [imAt, h0, h1], rfl⟩

set_option maxRecDepth 100000 in
theorem implSplit_any (b : Nat) (hb : b < 256) (w : World) :
    Calls Tryz.prog 69 #[.int .i64 b] w fun e w' => e = .returned (.tuple #[.int .i64 ((b / 32 : Nat) : Int), .int .i64 ((b / 4 % 8 : Nat) : Int), .int .i64 ((b % 4 : Nat) : Int)]) ∧ w = w' := by
  go_enter Tryz.func69, Tryz.ntmps69
  go_wp2
  exact bodyPost_ret (v := .tuple #[.int .i64 ((b / 32 : Nat) : Int), .int .i64 ((b / 4 % 8 : Nat) : Int), .int .i64 ((b % 4 : Nat) : Int)]) (by simp [results, Tryz.results69, go_sem]) rfl ⟨rfl, rfl⟩

end Go.Proofs.YtblchdmemhhcbaaGreat
