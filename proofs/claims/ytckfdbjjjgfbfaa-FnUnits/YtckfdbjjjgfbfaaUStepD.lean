/-
  Contracts over the program: the model's bus under a function with boxes of its own; places of the stack, what a mode adds.
-/
import Derived.Test.YtckfdbjjjgfbfaaUStepC
import Derived.Test.YtckfdbjjjgfbfaaUBus
namespace Go.Proofs.Ytckfdbjjjgfbfaa
set_option linter.unusedVariables false
set_option linter.unusedSimpArgs false
open Go.RowKit

/-- F without k blocks from n on. -/
def Less (F : Nat → Prop) (n k : Nat) : Nat → Prop := fun i => F i ∧ (i < n ∨ n + k ≤ i)

/-- A function that began at w and laid k boxes of its own is at W, where the bus is b. -/
structure Sit (F : Nat → Prop) (w : World) (k B : Nat) (W : World) (b : BusN) : Prop where
  bus : BusAt W (Less F w.heap.size k) B b
  turn : Turn F w W
  size : w.heap.size + k ≤ W.heap.size
  new : ∀ i, w.heap.size ≤ i → F i

theorem Sit.hF {F : Nat → Prop} {w W : World} {k B : Nat} {b : BusN} (s : Sit F w k B W b) : ∀ i, W.heap.size ≤ i → Less F w.heap.size k i := fun i hi => ⟨s.new i (by have := s.size; omega), .inr (by have := s.size; omega)⟩

theorem BusAt.alloc {w : World} {F : Nat → Prop} {B : Nat} {b : BusN} (h : BusAt w F B b) (o : Obj) : BusAt (w.alloc o) F B b := h.below ((Below.refl _ _).alloc (Nat.le_refl _) _)

theorem Sit.zero {F : Nat → Prop} {w : World} {B : Nat} {b : BusN} (h : BusAt w F B b) (hF : ∀ i, w.heap.size ≤ i → F i) : Sit F w 0 B w b :=
  ⟨h.less (fun i hi hf => ⟨hf, .inl hi⟩), Turn.refl _ _, by omega, hF⟩

theorem Sit.one {F : Nat → Prop} {w : World} {B : Nat} {b : BusN} (h : BusAt w F B b) (hF : ∀ i, w.heap.size ≤ i → F i) (o : Obj) : Sit F w 1 B (w.alloc o) b :=
  ⟨(h.less (fun i hi hf => ⟨hf, .inl hi⟩)).alloc o, Turn.of_below ((Below.refl _ _).alloc (Nat.le_refl _) _), by simp, hF⟩

theorem Sit.two {F : Nat → Prop} {w : World} {B : Nat} {b : BusN} (h : BusAt w F B b) (hF : ∀ i, w.heap.size ≤ i → F i) (o p : Obj) : Sit F w 2 B ((w.alloc o).alloc p) b :=
  ⟨((h.less (fun i hi hf => ⟨hf, .inl hi⟩)).alloc o).alloc p, Turn.of_below (((Below.refl _ _).alloc (Nat.le_refl _) _).alloc (by simp) _), by simp, hF⟩

theorem Sit.below {F : Nat → Prop} {w W W' : World} {k B : Nat} {b : BusN} (s : Sit F w k B W b) (h : Below W.heap.size W W') : Sit F w k B W' b :=
  ⟨s.bus.below h, s.turn.trans (Turn.of_below h), Nat.le_trans s.size h.size, s.new⟩

theorem Turn.wide {F : Nat → Prop} {n k : Nat} {a b : World} (h : Turn (Less F n k) a b) : Turn F a b := h.mono (fun _ _ hf => hf.1)

theorem BusAt.set {W : World} {F : Nat → Prop} {B : Nat} {b : BusN} (h : BusAt W F B b) {n k : Nat} (v : Value) (hn : ¬ F n) : BusAt (W.setCell ⟨n, k, none⟩ v) F B b := by
  obtain ⟨g, cap, u, hb, ho, hc, fB, fg, hne, fv⟩ := h
  have hg := grownBy_set1 W n k v
  refine ⟨g, cap, u, ?_, ownB_ne ho hg (fun j ej => ?_), World.ownsRow.kept hc hg ?_, fB, fg, hne, fv⟩
  · exact (hg.block B hb.lt (fun e => hn (by simp only [Option.some.injEq] at e; rw [← e]; exact fB))).trans hb
  · simp only [Value.ownBlock, Option.some.injEq] at ej
    intro e
    exact hn (by rw [← e, ← ej]; exact fg)
  · cases hv : u.ownBlock with
    | none => exact .inl rfl
    | some j => exact .inr (by
        intro e
        simp only [Option.some.injEq] at e
        exact hn (by rw [← e]; exact (fv j hv).1))

theorem Sit.set {F : Nat → Prop} {w W : World} {k B : Nat} {b : BusN} (s : Sit F w k B W b) {n o : Nat} (v : Value) (h1 : w.heap.size ≤ n) (h2 : n < w.heap.size + k) : Sit F w k B (W.setCell ⟨n, o, none⟩ v) b :=
  ⟨s.bus.set v (fun hf => by have := hf.2; omega), s.turn.trans (Turn.set _ _ _ _ (s.new n h1)), by have := s.size; simp; omega, s.new⟩

theorem Sit.six {F : Nat → Prop} {w W : World} {k B : Nat} {b : BusN} (s : Sit F w k B W b) {n : Nat} (v5 v6 v7 v8 v9 v10 : Value) (h1 : w.heap.size ≤ n) (h2 : n < w.heap.size + k) : Sit F w k B (set6 W n v5 v6 v7 v8 v9 v10) b :=
  (((((s.set v5 h1 h2).set v6 h1 h2).set v7 h1 h2).set v8 h1 h2).set v9 h1 h2).set v10 h1 h2

theorem Sit.out {F : Nat → Prop} {w W : World} {k B : Nat} {b : BusN} (s : Sit F w k B W b) : BusAt W F B b ∧ Turn F w W :=
  ⟨s.bus.less (fun _ _ hf => hf.1), s.turn⟩

/-- What a call over the bus leaves, seen from the function that made it. -/
structure Went (F : Nat → Prop) (w : World) (k B : Nat) (W W' : World) (b : BusN) : Prop where
  sit : Sit F w k B W' b
  box : ∀ n t cs, w.heap.size ≤ n → n < w.heap.size + k → BoxN W n t cs → BoxN W' n t cs

theorem Sit.went {F : Nat → Prop} {w W W' : World} {k B : Nat} {b b' : BusN} (s : Sit F w k B W b) (hB : BusAt W' (Less F w.heap.size k) B b') (t : Turn (Less F w.heap.size k) W W') : Went F w k B W W' b' :=
  ⟨⟨hB, s.turn.trans t.wide, Nat.le_trans s.size t.size, s.new⟩, fun n _ _ h1 h2 hb => hb.turn t (fun hf => by have := hf.2; omega)⟩

theorem Sit.rd {F : Nat → Prop} {w W : World} {k B : Nat} {b : BusN} (s : Sit F w k B W b) (x : Int) (a : Nat) (hx : x = (a : Int)) (ha : a < 200000) (hf : b.fit 30) {z : Nat} {b' : BusN} (hz : b.get a = z) (hb' : b.rd a = b') :
    Calls Try.prog 69 #[.pointer (some ⟨B, 0, none⟩), .int .i64 x] W fun e w' => e = .returned (.int .u8 (z : Nat)) ∧ Went F w k B W w' b' := by
  subst hx
  subst hz
  subst hb'
  refine (rd_any _ B b a ha hf W s.hF s.bus).mono ?_
  rintro e w' ⟨rfl, hb, ht⟩
  exact ⟨rfl, s.went hb ht⟩

theorem Sit.wr {F : Nat → Prop} {w W : World} {k B : Nat} {b : BusN} (s : Sit F w k B W b) (x y : Int) (a d : Nat) (hx : x = (a : Int)) (hy : y = (d : Int)) (ha : a < 200000) (hd : d < 256) (hf : b.fit 30) {b' : BusN} (hb' : b.put a d = b') :
    Calls Try.prog 78 #[.pointer (some ⟨B, 0, none⟩), .int .i64 x, .int .u8 y] W fun e w' => e = .returned (.tuple #[]) ∧ Went F w k B W w' b' := by
  subst hx
  subst hy
  subst hb'
  refine (wr_any _ B b a d ha hd hf W s.hF s.bus).mono ?_
  rintro e w' ⟨rfl, hb, ht⟩
  exact ⟨rfl, s.went hb ht⟩

theorem word_any (x y : Nat) (hx : x < 256) (hy : y < 256) (w : World) :
    Calls Try.prog 26 #[.int .u8 x, .int .u8 y] w fun e w' => e = .returned (.int .i64 (word x y : Nat)) ∧ w = w' := by
  go_enter Try.func26, Try.ntmps26
  go_wp2
  go_ret
  refine ⟨?_, rfl⟩
  unfold word
  go_num

theorem stack_any (x : Int) (a : Nat) (hx : x % 256 = ((a % 256 : Nat) : Int)) (h0 : -1000 ≤ x) (h1 : x ≤ 1000) (w : World) :
    Calls Try.prog 79 #[.int .i64 x] w fun e w' => e = .returned (.int .i64 (stk a : Nat)) ∧ w = w' := by
  have hA : bits .and .i64 x 255 = ((a % 256 : Nat) : Int) := by rw [and255_i64, hx]
  obtain ⟨y, hy⟩ : ∃ y, a % 256 = y := ⟨_, rfl⟩
  have hyb : y < 256 := by omega
  have HY := Lib.hid hy
  rw [hy] at hA
  clear hx hy
  go_enter Try.func79, Try.ntmps79
  go_wp2
  go_ret
  refine ⟨?_, rfl⟩
  unfold stk
  rw [HY.out]
  go_num

theorem index_any (c : CpuN) (hc : c.ok) (m : Int) (h0 : 0 ≤ m) (h1 : m ≤ 12) (w : World) :
    Calls Try.prog 103 #[cpuV c, .int .i64 m] w fun e w' => e = .returned (.int .i64 (idxN c m : Nat)) ∧ Below w.heap.size w w' := by
  obtain ⟨hA, hX, hY, hS, hP⟩ := hc
  have hm : m = 0 ∨ m = 1 ∨ m = 2 ∨ m = 3 ∨ m = 4 ∨ m = 5 ∨ m = 6 ∨ m = 7 ∨ m = 8 ∨ m = 9 ∨ m = 10 ∨ m = 11 ∨ m = 12 := by omega
  rcases hm with rfl | rfl | rfl | rfl | rfl | rfl | rfl | rfl | rfl | rfl | rfl | rfl | rfl
  all_goals
    go_enter Try.func103, Try.ntmps103
    go_wp2
    refine bodyPost_ret (v := .int .i64 (idxN c _ : Nat)) (by simp [results, Try.results103, go_sem, idxN]) rfl ⟨rfl, ?_⟩
    exact (Below.refl _ _).alloc (Nat.le_refl _) _

theorem index_at (c : CpuN) (hc : c.ok) (m : Int) (h0 : 0 ≤ m) (h1 : m ≤ 12) {i : Nat} (hi : idxN c m = i) (w : World) :
    Calls Try.prog 103 #[cpuV c, .int .i64 m] w fun e w' => e = .returned (.int .i64 (i : Nat)) ∧ Below w.heap.size w w' := by
  subst hi
  exact index_any c hc m h0 h1 w

theorem word_at (x y : Nat) (hx : x < 256) (hy : y < 256) {a : Nat} (ha : word x y = a) (w : World) :
    Calls Try.prog 26 #[.int .u8 x, .int .u8 y] w fun e w' => e = .returned (.int .i64 (a : Nat)) ∧ w = w' := by
  subst ha
  exact word_any x y hx hy w

end Go.Proofs.Ytckfdbjjjgfbfaa
