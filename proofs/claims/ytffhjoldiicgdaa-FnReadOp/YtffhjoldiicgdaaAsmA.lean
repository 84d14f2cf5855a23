/-
  Contracts over the program: the model's text of an operation (ShowOp).
-/
import Derived.Test.YtffhjoldiicgdaaOpC
import Derived.Test.YtffhjoldiicgdaaAsmNum
import Derived.Test.YtffhjoldiicgdaaHexText
import Derived.Deep.QuietTactic
import Derived.BigQuiet
import Derived.WalkSmall
namespace Go.Proofs.Ytffhjoldiicgdaa
set_option linter.unusedVariables false
set_option linter.unusedSimpArgs false
open Go.RowKit

set_option maxRecDepth 100000 in
theorem l04Word_any (x y : Nat) (hx : x < 256) (hy : y < 256) (w : World) :
    Calls Try.prog 37 #[.int .u8 x, .int .u8 y] w fun e w' => e = .returned (.int .i64 ((x + 256 * y : Nat) : Int)) ∧ w = w' := by
  go_enter Try.func37, Try.ntmps37
  go_wp2
  go_ret
  exact ⟨by simp, rfl⟩

set_option maxRecDepth 100000 in
theorem l04Offset_any (x : Nat) (hx : x < 256) (w : World) :
    Calls Try.prog 38 #[.int .u8 x] w fun e w' => e = .returned (.int .i64 (offB x)) ∧ w = w' := by
  by_cases h : 128 ≤ x
  · have e : offB x = (x : Int) - 256 := if_pos h
    rw [e]
    go_enter Try.func38, Try.ntmps38
    go_wp2
    go_ret
    exact ⟨rfl, rfl⟩
  · have e : offB x = (x : Int) := if_neg h
    rw [e]
    go_enter Try.func38, Try.ntmps38
    go_wp2
    go_ret
    exact ⟨rfl, rfl⟩

/-- A cell of an older block, as it was. -/
theorem cellKept {w w1 : World} {g o : Nat} {v : Value} (hb : Below w.heap.size w w1) (h : w.cell? ⟨g, o, none⟩ = some v) (hg : g < w.heap.size) : w1.cell? ⟨g, o, none⟩ = some v := by
  rw [hb.cell (p := ⟨g, o, none⟩) hg]; exact h

set_option maxRecDepth 100000 in
set_option maxHeartbeats 8000000 in
theorem specShow_three (g o n c x0 x1 x2 pc : Nat) (z m : Int) (nm t1 t2 t3 : ByteArray) (hn : (2 : Int) < n) (h1 : x1 < 256) (h2 : x2 < 256) (hp : pc < 65536) (hz : (z == 0) = false) (hnz : ¬ (n : Int) < z) (hnm : nm.size = 3) (ht1 : t1.size = 2) (ht2 : t2.size = 4) (ht3 : t3.size = 4)
    (HS : ∀ w, Calls Try.prog 35 #[.int .u8 x0] w fun e w' => e = .returned (.int .i64 z) ∧ Below w.heap.size w w')
    (HM : ∀ w, Calls Try.prog 23 #[.int .u8 x0] w fun e w' => e = .returned (.int .i64 m) ∧ Below w.heap.size w w')
    (HN : ∀ w, Calls Try.prog 21 #[.int .u8 x0] w fun e w' => e = .returned (.string nm) ∧ Below w.heap.size w w')
    (H1 : ∀ w, Calls Try.prog 36 #[.int .i64 x1, .int .i64 2] w fun e w' => e = .returned (.string t1) ∧ w = w')
    (H2 : ∀ w, Calls Try.prog 36 #[.int .i64 ((x1 + 256 * x2 : Nat) : Int), .int .i64 4] w fun e w' => e = .returned (.string t2) ∧ w = w')
    (H3 : ∀ w, Calls Try.prog 36 #[.int .i64 (bits .and .i64 ((pc : Int) + 2 + offB x1) 65535), .int .i64 4] w fun e w' => e = .returned (.string t3) ∧ w = w')
    (w : World) (hg : g < w.heap.size) (c0 : w.cell? ⟨g, o, none⟩ = some (.int .u8 x0)) (c1 : w.cell? ⟨g, o + 1, none⟩ = some (.int .u8 x1)) (c2 : w.cell? ⟨g, o + 2, none⟩ = some (.int .u8 x2)) :
    Calls Try.prog 12 #[.slice (some ⟨g, o, none⟩) n c, .int .u16 pc] w fun e w' => e = .returned (.string (asmText nm (⟨#[36]⟩ ++ t1) (⟨#[36]⟩ ++ t2) t3 m)) ∧ Below w.heap.size w w' := by
  have hn0 : ((n : Int) == 0) = false := by simp; omega
  have i0 : (0 : Int) ≤ 0 ∧ (0 : Int) < n := by omega
  have i1 : (0 : Int) ≤ 1 ∧ (1 : Int) < n := by omega
  have i2 : (0 : Int) ≤ 2 ∧ (2 : Int) < n := by omega
  obtain ⟨ho1, ho2⟩ := offB_range h1
  go_enter Try.func12, Try.ntmps12
  go_wp2_with fail
  refine (HS _).mono ?_
  rintro e w1 ⟨rfl, b1⟩
  have g1 : g < w1.heap.size := Nat.lt_of_lt_of_le hg b1.size
  have d0 := cellKept b1 c0 hg
  have d1 := cellKept b1 c1 hg
  have d2 := cellKept b1 c2 hg
  clear c0 c1 c2
  go_wp2_with fail
  refine (HS _).mono ?_
  rintro e w2 ⟨rfl, b2⟩
  have g2 : g < w2.heap.size := Nat.lt_of_lt_of_le g1 b2.size
  have c0 := cellKept b2 d0 g1
  have c1 := cellKept b2 d1 g1
  have c2 := cellKept b2 d2 g1
  clear d0 d1 d2 HS
  go_wp2_with fail
  refine (HN _).mono ?_
  rintro e w3 ⟨rfl, b3⟩
  have g3 : g < w3.heap.size := Nat.lt_of_lt_of_le g2 b3.size
  have d0 := cellKept b3 c0 g2
  have d1 := cellKept b3 c1 g2
  have d2 := cellKept b3 c2 g2
  clear c0 c1 c2 HN
  go_wp2_with fail
  refine (H1 _).mono ?_
  rintro e w' ⟨rfl, rfl⟩
  clear H1
  go_wp2_with fail
  go_quiet (first | (go_at_call 37; exact Calls.quiet_of_same ((l04Word_any x1 x2 h1 h2 _).mono fun _ _ h => ⟨h.1, h.2.symm⟩)) | (go_at_call 36; exact Calls.quiet_of_same ((H2 _).mono fun _ _ h => ⟨h.1, h.2.symm⟩)))
  have e1 : (w3.drewN nq).cell? ⟨g, o + 1, none⟩ = some (.int .u8 x1) := by simpa using d1
  have e0 : (w3.drewN nq).cell? ⟨g, o, none⟩ = some (.int .u8 x0) := by simpa using d0
  have g4 : g < (w3.drewN nq).heap.size := by simpa using g3
  go_wp2_with fail
  refine (HM _).mono ?_
  rintro e w4 ⟨rfl, b4⟩
  have f1 := cellKept b4 e1 g4
  have bb : Below w.heap.size w w4 := by
    have k1 := b1.trans (b2.mono b1.size)
    have k2 := k1.trans (b3.mono k1.size)
    have k3 : Below w.heap.size w (w3.drewN nq) := below_drewN k2 nq
    exact k3.trans (b4.mono k3.size)
  clear b1 b2 b3 b4 e0 e1 d0 d1 d2 HM H2 g1 g2 g3 g4
  go_wp2_with (first | (go_at_call 38; refine (l04Offset_any x1 h1 _).mono ?_; rintro e w' ⟨rfl, rfl⟩) | (go_at_call 36; refine (H3 _).mono ?_; rintro e w' ⟨rfl, rfl⟩))
  all_goals go_ret
  all_goals refine ⟨?_, bb⟩
  all_goals simp_all [asmText]

set_option maxRecDepth 100000 in
set_option maxHeartbeats 8000000 in
theorem specShow_two (g o n c x0 x1 pc : Nat) (z m : Int) (nm t1 T t3 : ByteArray) (hn : n = 2) (h1 : x1 < 256) (hp : pc < 65536) (hz : (z == 0) = false) (hnz : ¬ (n : Int) < z) (hnm : nm.size = 3) (ht1 : t1.size = 2) (ht3 : t3.size = 4) (m6 : (m == 6) = false) (m7 : (m == 7) = false) (m8 : (m == 8) = false) (m9 : (m == 9) = false)
    (HS : ∀ w, Calls Try.prog 35 #[.int .u8 x0] w fun e w' => e = .returned (.int .i64 z) ∧ Below w.heap.size w w')
    (HM : ∀ w, Calls Try.prog 23 #[.int .u8 x0] w fun e w' => e = .returned (.int .i64 m) ∧ Below w.heap.size w w')
    (HN : ∀ w, Calls Try.prog 21 #[.int .u8 x0] w fun e w' => e = .returned (.string nm) ∧ Below w.heap.size w w')
    (H1 : ∀ w, Calls Try.prog 36 #[.int .i64 x1, .int .i64 2] w fun e w' => e = .returned (.string t1) ∧ w = w')
    (H3 : ∀ w, Calls Try.prog 36 #[.int .i64 (bits .and .i64 ((pc : Int) + 2 + offB x1) 65535), .int .i64 4] w fun e w' => e = .returned (.string t3) ∧ w = w')
    (w : World) (hg : g < w.heap.size) (c0 : w.cell? ⟨g, o, none⟩ = some (.int .u8 x0)) (c1 : w.cell? ⟨g, o + 1, none⟩ = some (.int .u8 x1)) :
    Calls Try.prog 12 #[.slice (some ⟨g, o, none⟩) n c, .int .u16 pc] w fun e w' => e = .returned (.string (asmText nm (⟨#[36]⟩ ++ t1) T t3 m)) ∧ Below w.heap.size w w' := by
  have hn0 : ((n : Int) == 0) = false := by simp; omega
  have i0 : (0 : Int) ≤ 0 ∧ (0 : Int) < n := by omega
  have i1 : (0 : Int) ≤ 1 ∧ (1 : Int) < n := by omega
  have j1 : (1 : Int) < n := by omega
  have j2 : ¬ (2 : Int) < n := by omega
  obtain ⟨ho1, ho2⟩ := offB_range h1
  clear hn
  go_enter Try.func12, Try.ntmps12
  go_wp2_with fail
  refine (HS _).mono ?_
  rintro e w1 ⟨rfl, b1⟩
  have g1 : g < w1.heap.size := Nat.lt_of_lt_of_le hg b1.size
  have d0 := cellKept b1 c0 hg
  have d1 := cellKept b1 c1 hg
  clear c0 c1
  go_wp2_with fail
  refine (HS _).mono ?_
  rintro e w2 ⟨rfl, b2⟩
  have g2 : g < w2.heap.size := Nat.lt_of_lt_of_le g1 b2.size
  have c0 := cellKept b2 d0 g1
  have c1 := cellKept b2 d1 g1
  clear d0 d1 HS
  go_wp2_with fail
  refine (HN _).mono ?_
  rintro e w3 ⟨rfl, b3⟩
  have g3 : g < w3.heap.size := Nat.lt_of_lt_of_le g2 b3.size
  have d0 := cellKept b3 c0 g2
  have d1 := cellKept b3 c1 g2
  clear c0 c1 HN
  go_wp2_with fail
  refine (H1 _).mono ?_
  rintro e w' ⟨rfl, rfl⟩
  clear H1
  go_wp2_with fail
  refine (HM _).mono ?_
  rintro e w4 ⟨rfl, b4⟩
  have f1 := cellKept b4 d1 g3
  have bb : Below w.heap.size w w4 := by
    have k1 := b1.trans (b2.mono b1.size)
    have k2 := k1.trans (b3.mono k1.size)
    exact k2.trans (b4.mono k2.size)
  clear b1 b2 b3 b4 d0 d1 HM g1 g2 g3
  go_wp2_with (first | (go_at_call 38; refine (l04Offset_any x1 h1 _).mono ?_; rintro e w' ⟨rfl, rfl⟩) | (go_at_call 36; refine (H3 _).mono ?_; rintro e w' ⟨rfl, rfl⟩))
  all_goals go_ret
  all_goals refine ⟨?_, bb⟩
  all_goals simp_all [asmText]

set_option maxRecDepth 100000 in
set_option maxHeartbeats 8000000 in
theorem specShow_one (g o n c x0 pc : Nat) (z m : Int) (nm t1 T t3 : ByteArray) (hn : n = 1) (hz : (z == 0) = false) (hnz : ¬ (n : Int) < z) (hnm : nm.size = 3) (m2 : (m == 2) = false) (m3 : (m == 3) = false) (m4 : (m == 4) = false) (m5 : (m == 5) = false) (m6 : (m == 6) = false) (m7 : (m == 7) = false) (m8 : (m == 8) = false) (m9 : (m == 9) = false) (m10 : (m == 10) = false) (m11 : (m == 11) = false) (m12 : (m == 12) = false)
    (HS : ∀ w, Calls Try.prog 35 #[.int .u8 x0] w fun e w' => e = .returned (.int .i64 z) ∧ Below w.heap.size w w')
    (HM : ∀ w, Calls Try.prog 23 #[.int .u8 x0] w fun e w' => e = .returned (.int .i64 m) ∧ Below w.heap.size w w')
    (HN : ∀ w, Calls Try.prog 21 #[.int .u8 x0] w fun e w' => e = .returned (.string nm) ∧ Below w.heap.size w w')
    (w : World) (hg : g < w.heap.size) (c0 : w.cell? ⟨g, o, none⟩ = some (.int .u8 x0)) :
    Calls Try.prog 12 #[.slice (some ⟨g, o, none⟩) n c, .int .u16 pc] w fun e w' => e = .returned (.string (asmText nm t1 T t3 m)) ∧ Below w.heap.size w w' := by
  have hn0 : ((n : Int) == 0) = false := by simp; omega
  have i0 : (0 : Int) ≤ 0 ∧ (0 : Int) < n := by omega
  have j1 : ¬ (1 : Int) < n := by omega
  have j2 : ¬ (2 : Int) < n := by omega
  clear hn
  go_enter Try.func12, Try.ntmps12
  go_wp2_with fail
  refine (HS _).mono ?_
  rintro e w1 ⟨rfl, b1⟩
  have g1 : g < w1.heap.size := Nat.lt_of_lt_of_le hg b1.size
  have d0 := cellKept b1 c0 hg
  clear c0
  go_wp2_with fail
  refine (HS _).mono ?_
  rintro e w2 ⟨rfl, b2⟩
  have g2 : g < w2.heap.size := Nat.lt_of_lt_of_le g1 b2.size
  have c0 := cellKept b2 d0 g1
  clear d0 HS
  go_wp2_with fail
  refine (HN _).mono ?_
  rintro e w3 ⟨rfl, b3⟩
  have g3 : g < w3.heap.size := Nat.lt_of_lt_of_le g2 b3.size
  have d0 := cellKept b3 c0 g2
  clear c0 HN
  go_wp2_with fail
  refine (HM _).mono ?_
  rintro e w4 ⟨rfl, b4⟩
  have bb : Below w.heap.size w w4 := by
    have k1 := b1.trans (b2.mono b1.size)
    have k2 := k1.trans (b3.mono k1.size)
    exact k2.trans (b4.mono k2.size)
  clear b1 b2 b3 b4 d0 HM g1 g2 g3
  go_wp2
  all_goals go_ret
  all_goals refine ⟨?_, bb⟩
  all_goals simp_all [asmText]

set_option maxRecDepth 100000 in
theorem specShow_nil (a : Option Addr) (c : Nat) (pc : Int) (w : World) :
    Calls Try.prog 12 #[.slice a 0 c, .int .u16 pc] w fun e w' => e = .returned (.string ByteArray.empty) ∧ Below w.heap.size w w' := by
  go_enter Try.func12, Try.ntmps12
  go_wp2
  go_ret
  exact ⟨rfl, Below.refl _ _⟩

set_option maxRecDepth 100000 in
theorem specShow_no (g o n c x0 : Nat) (pc z : Int) (hn : 0 < n) (hz : (z == 0) = true)
    (HS : ∀ w, Calls Try.prog 35 #[.int .u8 x0] w fun e w' => e = .returned (.int .i64 z) ∧ Below w.heap.size w w')
    (w : World) (c0 : w.cell? ⟨g, o, none⟩ = some (.int .u8 x0)) :
    Calls Try.prog 12 #[.slice (some ⟨g, o, none⟩) n c, .int .u16 pc] w fun e w' => e = .returned (.string ByteArray.empty) ∧ Below w.heap.size w w' := by
  have hn0 : ((n : Int) == 0) = false := by simp; omega
  have i0 : (0 : Int) ≤ 0 ∧ (0 : Int) < n := by omega
  go_enter Try.func12, Try.ntmps12
  go_wp2_with fail
  refine (HS _).mono ?_
  rintro e w1 ⟨rfl, b1⟩
  go_wp2
  go_ret
  exact ⟨rfl, b1⟩

set_option maxRecDepth 100000 in
theorem specShow_few (g o n c x0 : Nat) (pc z : Int) (hn : 0 < n) (hz : (z == 0) = false) (hnz : (n : Int) < z)
    (HS : ∀ w, Calls Try.prog 35 #[.int .u8 x0] w fun e w' => e = .returned (.int .i64 z) ∧ Below w.heap.size w w')
    (w : World) (hg : g < w.heap.size) (c0 : w.cell? ⟨g, o, none⟩ = some (.int .u8 x0)) :
    Calls Try.prog 12 #[.slice (some ⟨g, o, none⟩) n c, .int .u16 pc] w fun e w' => e = .returned (.string ByteArray.empty) ∧ Below w.heap.size w w' := by
  have hn0 : ((n : Int) == 0) = false := by simp; omega
  have i0 : (0 : Int) ≤ 0 ∧ (0 : Int) < n := by omega
  go_enter Try.func12, Try.ntmps12
  go_wp2_with fail
  refine (HS _).mono ?_
  rintro e w1 ⟨rfl, b1⟩
  have d0 := cellKept b1 c0 hg
  go_wp2_with fail
  refine (HS _).mono ?_
  rintro e w2 ⟨rfl, b2⟩
  go_wp2
  go_ret
  exact ⟨rfl, b1.trans (b2.mono b1.size)⟩

/-- A row of n bytes of which the first three are told. -/
def Three (w : World) (a : Option Addr) (n x0 x1 x2 : Nat) : Prop :=
  n = 0 ∨ ∃ g o, a = some ⟨g, o, none⟩ ∧ g < w.heap.size ∧ w.cell? ⟨g, o, none⟩ = some (.int .u8 x0) ∧ (2 ≤ n → w.cell? ⟨g, o + 1, none⟩ = some (.int .u8 x1)) ∧ (3 ≤ n → w.cell? ⟨g, o + 2, none⟩ = some (.int .u8 x2))

theorem relBits (pc x1 : Nat) : bits .and .i64 ((pc : Int) + 2 + offB x1) 65535 = ((relAt pc x1 : Nat) : Int) := by
  rw [i64_and65535, relAt]; omega

theorem specShow_any (a : Option Addr) (n c x0 x1 x2 pc : Nat) (h0 : x0 < 256) (h1 : x1 < 256) (h2 : x2 < 256) (hp : pc < 65536) (w : World) (h : Three w a n x0 x1 x2) :
    Calls Try.prog 12 #[.slice a n c, .int .u16 pc] w fun e w' => e = .returned (.string (showOp n x0 x1 x2 pc)) ∧ Below w.heap.size w w' := by
  by_cases hn : n = 0
  · subst hn
    simpa [showOp] using specShow_nil a c pc w
  obtain ⟨g, o, rfl, hg, c0, c1, c2⟩ := h.resolve_left hn
  have HS := specSize_any x0 h0
  have HM := specMode_any x0 h0
  have HN := specName_any x0 h0
  by_cases hz : opSize x0 = 0
  · simpa [showOp, hz] using specShow_no g o n c x0 pc (opSize x0) (by omega) (by simp [hz]) HS w c0
  by_cases hf : (n : Int) < opSize x0
  · simpa [showOp, hf] using specShow_few g o n c x0 pc (opSize x0) (by omega) (by simp [hz]) hf HS w hg c0
  have hsh : showOp n x0 x1 x2 pc = showTx x0 x1 x2 pc := by simp [showOp, hn, hz, hf]
  rw [hsh]
  have hid : opId x0 ≠ 0 := by intro e; exact hz (by simp [opSize, e])
  have hnm : (opName x0).size = 3 := by rw [opName, opTx_size (opId_le h0), if_neg hid]
  have H1 := fun w => specHexText_yes x1 2 (by omega) (by omega) (by omega) w
  have H2 := fun w => specHexText_yes (x1 + 256 * x2) 4 (by omega) (by omega) (by omega) w
  have H3 : ∀ w, Calls Try.prog 36 #[.int .i64 (bits .and .i64 ((pc : Int) + 2 + offB x1) 65535), .int .i64 4] w fun e w' => e = .returned (.string (relTx pc x1)) ∧ w = w' := by
    intro w; rw [relBits]
    exact specHexText_yes (relAt pc x1) 4 (by have := relAt_lt pc x1; omega) (by omega) (by omega) w
  obtain ⟨s1, s2, s3⟩ := sizes h0
  obtain ⟨z0, z3⟩ := opSize_range h0
  by_cases e1 : n = 1
  · have hm := s1 (by omega)
    exact specShow_one g o n c x0 pc (opSize x0) (opMode x0) (opName x0) _ _ _ e1 (by simp [hz]) hf hnm (by simp; omega) (by simp; omega) (by simp; omega) (by simp; omega) (by simp; omega) (by simp; omega) (by simp; omega) (by simp; omega) (by simp; omega) (by simp; omega) (by simp; omega) HS HM HN w hg c0
  by_cases e2 : n = 2
  · have hm : opMode x0 ≠ 6 ∧ opMode x0 ≠ 7 ∧ opMode x0 ≠ 8 ∧ opMode x0 ≠ 9 := by
      have : opSize x0 = 1 ∨ opSize x0 = 2 := by omega
      rcases this with q | q
      · have := s1 q; omega
      · have := s2 q; omega
    exact specShow_two g o n c x0 x1 pc (opSize x0) (opMode x0) (opName x0) _ _ _ e2 h1 hp (by simp [hz]) hf hnm (hexL_size _ _) (relTx_size _ _) (by simp; omega) (by simp; omega) (by simp; omega) (by simp; omega) HS HM HN H1 H3 w hg c0 (c1 (by omega))
  · exact specShow_three g o n c x0 x1 x2 pc (opSize x0) (opMode x0) (opName x0) _ _ _ (by omega) h1 h2 hp (by simp [hz]) hf hnm (hexL_size _ _) (hexL_size _ _) (relTx_size _ _) HS HM HN H1 H2 H3 w hg c0 (c1 (by omega)) (c2 (by omega))

end Go.Proofs.Ytffhjoldiicgdaa
