/-
  Contracts over the program: the model's Step.
-/
import Derived.Test.YtckfdbjjjgfbfaaUStepI
import Derived.Test.YtckfdbjjjgfbfaaUOpC
namespace Go.Proofs.Ytckfdbjjjgfbfaa
set_option linter.unusedVariables false
set_option linter.unusedSimpArgs false
open Go.RowKit

def placeModes : List Int := [3, 4, 5, 6, 7, 8, 10, 11]

theorem op_k1 {b : Nat} (hb : b < 256) : opKind b = 1 → (opMode b = 0 ∧ opId b ∈ [17, 18, 19, 20, 21, 22, 37, 38, 39, 40, 49, 50, 51, 52, 53, 54, 55, 56]) ∨ (opMode b = 1 ∧ opId b ∈ [9, 10, 11, 12]) :=
  byte_all (p := fun b => opKind b = 1 → (opMode b = 0 ∧ opId b ∈ [17, 18, 19, 20, 21, 22, 37, 38, 39, 40, 49, 50, 51, 52, 53, 54, 55, 56]) ∨ (opMode b = 1 ∧ opId b ∈ [9, 10, 11, 12])) (by decide +kernel) hb

theorem op_k2 {b : Nat} (hb : b < 256) : opKind b = 2 → opId b ∈ [1, 2, 3, 4, 6, 7, 8, 14, 24, 25, 26, 31] ∧ (opMode b = 2 ∨ opMode b ∈ placeModes) :=
  byte_all (p := fun b => opKind b = 2 → opId b ∈ [1, 2, 3, 4, 6, 7, 8, 14, 24, 25, 26, 31] ∧ (opMode b = 2 ∨ opMode b ∈ placeModes)) (by decide +kernel) hb

theorem op_k3 {b : Nat} (hb : b < 256) : opKind b = 3 → opId b ∈ [5, 13, 23] ∧ opMode b ∈ placeModes :=
  byte_all (p := fun b => opKind b = 3 → opId b ∈ [5, 13, 23] ∧ opMode b ∈ placeModes) (by decide +kernel) hb

theorem op_k4 {b : Nat} (hb : b < 256) : opKind b = 4 → opId b ∈ [9, 10, 11, 12, 15, 16] ∧ opMode b ∈ placeModes :=
  byte_all (p := fun b => opKind b = 4 → opId b ∈ [9, 10, 11, 12, 15, 16] ∧ opMode b ∈ placeModes) (by decide +kernel) hb

theorem op_k5 {b : Nat} (hb : b < 256) : opKind b = 5 → opId b ∈ [41, 42, 43, 44, 45, 46, 47, 48] :=
  byte_all (p := fun b => opKind b = 5 → opId b ∈ [41, 42, 43, 44, 45, 46, 47, 48]) (by decide +kernel) hb

theorem op_k6 {b : Nat} (hb : b < 256) : opKind b ≠ 0 ∧ opKind b ≠ 1 ∧ opKind b ≠ 2 ∧ opKind b ≠ 3 ∧ opKind b ≠ 4 ∧ opKind b ≠ 5 → opId b = 32 ∧ (opMode b = 6 ∨ opMode b = 9) ∨ opId b = 28 ∧ opMode b = 6 ∨ opMode b = 0 ∧ (opId b = 30 ∨ opId b = 29 ∨ opId b = 27 ∨ opId b ∈ [33, 34, 35, 36]) :=
  byte_all (p := fun b => opKind b ≠ 0 ∧ opKind b ≠ 1 ∧ opKind b ≠ 2 ∧ opKind b ≠ 3 ∧ opKind b ≠ 4 ∧ opKind b ≠ 5 → opId b = 32 ∧ (opMode b = 6 ∨ opMode b = 9) ∨ opId b = 28 ∧ opMode b = 6 ∨ opMode b = 0 ∧ (opId b = 30 ∨ opId b = 29 ∨ opId b = 27 ∨ opId b ∈ [33, 34, 35, 36])) (by decide +kernel) hb

theorem op_ks {b : Nat} (hb : b < 256) : 0 ≤ opSize b ∧ opSize b ≤ 3 :=
  byte_all (p := fun b => 0 ≤ opSize b ∧ opSize b ≤ 3) (by decide +kernel) hb

theorem op_k0 {b : Nat} (hb : b < 256) : opKind b = 0 ↔ opId b = 0 :=
  byte_all (p := fun b => opKind b = 0 ↔ opId b = 0) (by decide +kernel) hb

theorem place_or {m : Int} (h : m ∈ placeModes) : m = 3 ∨ m = 4 ∨ m = 5 ∨ m = 6 ∨ m = 7 ∨ m = 8 ∨ m = 10 ∨ m = 11 := by simpa [placeModes] using h

theorem data_any (F : Nat → Prop) (B : Nat) (b : BusN) (c : CpuN) (hc : c.ok) (code : Nat) (hcode : code < 256) (hk : opKind code = 2 ∨ opKind code = 3 ∨ opKind code = 4) (hf : b.fit 10) (w : World) (hF : ∀ i, w.heap.size ≤ i → F i) (h : BusAt w F B b) {r : CpuN × BusN} (hr : dataN b c code = r) :
    Calls Try.prog 75 #[.pointer (some ⟨B, 0, none⟩), cpuV c, .int .u8 code] w fun e w' => e = .returned (cpuV r.1) ∧ BusAt w' F B r.2 ∧ Turn F w w' := by
  subst hr
  have k2 := op_k2 hcode
  have k3 := op_k3 hcode
  have k4 := op_k4 hcode
  have ks := op_ks hcode
  obtain ⟨sz, hsz⟩ : ∃ n : Nat, opSize code = (n : Int) := ⟨(opSize code).toNat, by omega⟩
  rcases hk with hk | hk | hk
  · obtain ⟨hi, hm⟩ := k2 hk
    rcases hm with hm | hm
    · exact data_imm F B b c hc code hcode _ rfl hi hm hk sz hsz (by omega) hf w hF h
    · exact data_read F B b c hc code hcode _ rfl hi _ rfl (place_or hm) hk sz hsz (by omega) hf w hF h
  · obtain ⟨hi, hm⟩ := k3 hk
    exact data_write F B b c hc code hcode _ rfl hi _ rfl (place_or hm) hk sz hsz (by omega) hf w hF h
  · obtain ⟨hi, hm⟩ := k4 hk
    exact data_mod F B b c hc code hcode _ rfl hi _ rfl (place_or hm) hk sz hsz (by omega) hf w hF h

/-- Is the byte at an address no operation? -/
def jamsN (L : List Nat) (pc : Nat) : Bool := ramN L.length && decide (opId (peekL L pc) = 0)

theorem peekL_lt {L : List Nat} {w : World} {a : Option Addr} (h : RowB w a L) (pc : Nat) : peekL L pc < 256 := by
  unfold peekL
  split
  · exact h.byte' _
  · omega

theorem specJams_any (a : Option Addr) (cap pc : Nat) (L : List Nat) (hpc : pc < 65536) (w : World) (hr : RowB w a L) :
    Calls Try.prog 53 #[ramV (.slice a L.length cap), .int .u16 pc] w fun e w' => e = .returned (.bool (jamsN L pc)) ∧ Below w.heap.size w w' := by
  have HO := fun w => specOk_any a L.length cap w
  cases h : ramN L.length with
  | false =>
    have e : jamsN L pc = false := by unfold jamsN; rw [h]; rfl
    rw [e]
    rw [h] at HO
    clear h e
    go_enter Try.func53, Try.ntmps53
    go_wp2_with fail
    refine (HO _).mono ?_
    rintro e w1 ⟨rfl, d1⟩
    have b1 := bstep ((Below.refl _ w).alloc (Nat.le_refl _) _) d1
    go_wp2
    go_ret
    exact ⟨rfl, b1⟩
  | true =>
    obtain ⟨x, hx⟩ : ∃ x, peekL L pc = x := ⟨_, rfl⟩
    have hxb : x < 256 := by rw [← hx]; exact peekL_lt hr pc
    obtain ⟨i, hi⟩ : ∃ i, opId x = i := ⟨_, rfl⟩
    have hil : i ≤ 56 := by rw [← hi]; exact opId_le hxb
    have e : jamsN L pc = decide (i = 0) := by unfold jamsN; rw [h, hx, hi]; rfl
    have hE := opTx_empty hil
    rw [e]
    rw [h] at HO
    have HX := Lib.hid hx
    have HI := Lib.hid hi
    have HR := Lib.hid hr
    have HE := Lib.hid hE
    obtain ⟨T, hT⟩ : ∃ T, opTx i = T := ⟨_, rfl⟩
    rw [hT] at hE
    have HT := Lib.hid hT
    clear h e hx hi hr hT
    go_enter Try.func53, Try.ntmps53
    go_wp2_with fail
    refine (HO _).mono ?_
    rintro e w1 ⟨rfl, d1⟩
    have q1 := (one_call d1).1
    have b1 := (one_call d1).2
    have c1 := q1.cell 0 _ rfl
    clear d1
    go_wp2_with fail
    refine (specPeek_any a cap pc L hpc _ (RowB.below HR.out b1)).mono ?_
    rintro e w2 ⟨rfl, d2⟩
    have b2 := bstep b1 d2
    clear b1 d2 c1 q1
    rw [HX.out]
    go_wp2_with fail
    refine (name_at x hxb HI.out _).mono ?_
    rintro e w3 ⟨rfl, d3⟩
    have b3 := bstep b2 d3
    clear b2 d3
    rw [HT.out]
    go_wp2
    go_ret
    refine ⟨?_, b3⟩
    first | rfl | (rw [hE]) | (simp [hE])

theorem four_call {w w1 : World} {cs rs zs us : Array Value} {t u v x : TypeId} (hb : Below ((((w.alloc (.cells cs t)).alloc (.cells rs u)).alloc (.cells zs v)).alloc (.cells us x)).heap.size ((((w.alloc (.cells cs t)).alloc (.cells rs u)).alloc (.cells zs v)).alloc (.cells us x)) w1) :
    BoxN w1 w.heap.size t cs ∧ BoxN w1 (w.heap.size + 1) u rs ∧ BoxN w1 (w.heap.size + 1 + 1) v zs ∧ BoxN w1 (w.heap.size + 1 + 1 + 1) x us ∧ Below w.heap.size w w1 ∧ w.heap.size + 4 ≤ w1.heap.size := by
  have al : ∀ (W : World) (o : Obj), Below W.heap.size W (W.alloc o) := fun W o => (Below.refl _ _).alloc (Nat.le_refl _) _
  have h0 := ((((BoxN.new w t cs).below (al _ (.cells rs u))).below (al _ (.cells zs v))).below (al _ (.cells us x))).below hb
  have h1 := (((BoxN.new (w.alloc (.cells cs t)) u rs).below (al _ (.cells zs v))).below (al _ (.cells us x))).below hb
  have h2 := ((BoxN.new ((w.alloc (.cells cs t)).alloc (.cells rs u)) v zs).below (al _ (.cells us x))).below hb
  have h3 := (BoxN.new (((w.alloc (.cells cs t)).alloc (.cells rs u)).alloc (.cells zs v)) x us).below hb
  simp only [World.size_alloc] at h1 h2 h3
  have hz := hb.size
  simp only [World.size_alloc] at hz
  refine ⟨h0, h1, h2, h3, ?_, by omega⟩
  exact bstep (bstep (bstep (bstep (al w _) (al _ _)) (al _ _)) (al _ _)) hb

end Go.Proofs.Ytckfdbjjjgfbfaa

namespace Go.Proofs.Ytckfdbjjjgfbfaa
set_option linter.unusedVariables false
set_option linter.unusedSimpArgs false
open Go.RowKit

/-- A step in plain numbers: the processor, and the bus with the memory behind it and its cycles. -/
def stepN (c : CpuN) (L : List Nat) : CpuN × BusN :=
  if ramN L.length = true then (if jamsN L c.PC = true then (c, ⟨L, []⟩) else opN ⟨L, []⟩ c) else (cpu0, ⟨[], []⟩)

/-- What a step, or an interrupt, answers. -/
def Stepped (w : World) (r : CpuN × BusN) (e : Ending) (w' : World) : Prop :=
  ∃ v u, e = .returned (.tuple #[cpuV r.1, ramV v, u]) ∧ OwnB w' w.heap.size v r.2.mem ∧ OwnC w' w.heap.size u r.2.log ∧ (∀ k, v.ownBlock = some k → u.ownBlock ≠ some k) ∧ Below w.heap.size w w'

theorem ownsRow_up {w : World} {base n len k : Nat} {t : TypeId} {v : Value} {L : List Value} (h : w.ownsRow base t k v len L) (hn : ∀ g, v.ownBlock = some g → n ≤ g) : w.ownsRow n t k v len L := by
  obtain ⟨h1, h2⟩ := h
  refine ⟨h1, ?_⟩
  rcases h2 with h2 | ⟨g, cap, cur, rfl, hb, rest⟩
  · exact .inl h2
  · exact .inr ⟨g, cap, cur, rfl, hn g rfl, rest⟩

abbrev newF (w : World) : Nat → Prop := fun i => w.heap.size ≤ i

/-- The bus's rows, told of the answer. -/
theorem Sit.rows {w W : World} {k B : Nat} {b : BusN} (s : Sit (newF w) w k B W b) : ∃ g cap v, W.cell? ⟨B, 0, none⟩ = some (.slice (some ⟨g, 0, none⟩) b.mem.length cap) ∧ W.cell? ⟨B, 1, none⟩ = some v ∧ B < W.heap.size ∧ w.heap.size + k ≤ B ∧
    OwnB W w.heap.size (.slice (some ⟨g, 0, none⟩) b.mem.length cap) b.mem ∧ OwnC W w.heap.size v b.log ∧ (∀ j, v.ownBlock = some j → w.heap.size + k ≤ j ∧ j ≠ g) ∧ w.heap.size + k ≤ g := by
  obtain ⟨g, cap, v, hb, ho, hc, fB, fg, hne, fv⟩ := s.bus
  refine ⟨g, cap, v, hb.cell 0 _ rfl, hb.cell 1 _ rfl, hb.lt, ?_, ⟨ho.1, ownsRow_up ho.2 (fun j ej => ?_)⟩, ownsRow_up hc (fun j ej => ?_), fun j ej => ⟨?_, (fv j ej).2.2⟩, ?_⟩
  · have h1 : w.heap.size ≤ B := fB.1
    rcases fB.2 with h | h <;> omega
  · simp only [Value.ownBlock, Option.some.injEq] at ej
    subst ej
    exact fg.1
  · exact (fv j ej).1.1
  · have h1 : w.heap.size ≤ j := (fv j ej).1.1
    rcases (fv j ej).1.2 with h | h <;> omega
  · have h1 : w.heap.size ≤ g := fg.1
    rcases fg.2 with h | h <;> omega

theorem Span.inn {W W1 : World} {lo hi B k : Nat} (h : Span lo hi W W1) (v : Value) (h1 : lo ≤ B) (h2 : B < hi) : Span lo hi W (W1.setCell ⟨B, k, none⟩ v) :=
  h.trans ((Span.set W1 B k v).wide h1 (by omega))

theorem Span.refl (lo hi : Nat) (W : World) : Span lo hi W W := Span.of_below _ _ (Below.refl _ _)

theorem Span.more {W W1 : World} {lo hi : Nat} (h : Span lo hi W W1) (o : Obj) : Span lo hi W (W1.alloc o) := h.trans (Span.of_below _ _ ((Below.refl _ _).alloc (Nat.le_refl _) _))

theorem Span.drew {W W1 : World} {lo hi : Nat} (h : Span lo hi W W1) : Span lo hi W W1.drew := h.trans (Span.of_below _ _ (Below.refl _ _).drew)

theorem Turn.new {w W : World} (h : Turn (newF w) w W) : Below w.heap.size w W := h.below (fun i hi hf => by have : w.heap.size ≤ i := hf; omega) (Nat.le_refl _)

theorem Stepped.of {w W W' : World} {k B : Nat} {b : BusN} {c : CpuN} {g cap : Nat} {v : Value} (s : Sit (newF w) w k B W b)
    (ho : OwnB W w.heap.size (.slice (some ⟨g, 0, none⟩) b.mem.length cap) b.mem) (hc : OwnC W w.heap.size v b.log) (hv : ∀ j, v.ownBlock = some j → w.heap.size + k ≤ j ∧ j ≠ g) (hg : w.heap.size + k ≤ g)
    (hs : Span w.heap.size (w.heap.size + k) W W') : Stepped w (c, b) (.returned (.tuple #[cpuV c, ramV (.slice (some ⟨g, 0, none⟩) b.mem.length cap), v])) W' := by
  have kept : ∀ j, j < W.heap.size → w.heap.size + k ≤ j → W'.heap[j]? = W.heap[j]? := fun j hj hk => hs.block j hj (.inr hk)
  refine ⟨_, _, rfl, ⟨ho.1, ?_⟩, ?_, fun j ej => ?_, s.turn.new.trans (hs.below (Nat.le_refl _) (by have := s.size; omega))⟩
  · obtain ⟨h1, h2⟩ := ho.2
    refine ⟨h1, ?_⟩
    rcases h2 with h2 | ⟨g', cap', cur, e, hb, hh, rest⟩
    · exact .inl h2
    · simp only [Value.slice.injEq, Option.some.injEq, Addr.mk.injEq] at e
      obtain ⟨⟨rfl, _⟩, _, rfl⟩ := e
      exact .inr ⟨g, cap, cur, rfl, hb, (kept g (Array.getElem?_eq_some_iff.1 hh).1 hg).trans hh, rest⟩
  · obtain ⟨h1, h2⟩ := hc
    refine ⟨h1, ?_⟩
    rcases h2 with h2 | ⟨g', cap', cur, rfl, hb, hh, rest⟩
    · exact .inl h2
    · exact .inr ⟨g', cap', cur, rfl, hb, (kept g' (Array.getElem?_eq_some_iff.1 hh).1 (hv g' rfl).1).trans hh, rest⟩
  · simp only [Value.ownBlock, Option.some.injEq] at ej
    subst ej
    intro e
    exact (hv _ e).2 rfl

theorem ram_new (w : World) {base : Nat} (hb : base ≤ w.heap.size) : OwnC (w.alloc (.cells #[] 105)) base (.slice (some ⟨w.heap.size, 0, none⟩) 0 0) [] := by
  refine ⟨rfl, .inr ⟨w.heap.size, 0, #[], rfl, hb, World.alloc_heap_new _ _, by simp, by unfold maxLen; omega, rfl, rfl⟩⟩

set_option maxRecDepth 100000 in
set_option maxHeartbeats 1000000 in
theorem step_no (c : CpuN) (a : Option Addr) (cap : Nat) (L : List Nat) (h : ramN L.length = false) (w : World) :
    Calls Try.prog 54 #[cpuV c, ramV (.slice a L.length cap)] w (Stepped w (cpu0, ⟨[], []⟩)) := by
  have HO := fun w => specOk_any a L.length cap w
  rw [h] at HO
  clear h
  go_enter Try.func54, Try.ntmps54
  go_wp2_with fail
  refine (HO _).mono ?_
  rintro e w1 ⟨rfl, d1⟩
  obtain ⟨q0, r0, y0, x0, b0, z0⟩ := four_call d1
  obtain ⟨h0, h1, h2, h3, h4, h5, h6, h7, h8, h9, h10, f1⟩ := eleven y0
  have x0c := x0.cell 0 _ rfl
  have fx := fun k => x0.frozen k
  have n0 := y0.lt
  have n1 := x0.lt
  have B0 := Lib.hid b0
  clear d1 q0 r0 y0 x0 b0 HO
  go_wp2
  refine bodyPost_ret (v := .tuple #[cpuV cpu0, ramV (.slice none 0 0), .slice (some ⟨w1.heap.size, 0, none⟩) 0 0]) (by simp [results, Try.results54, go_sem, h0, h1, h2, h3, h4, h5, h6, h7, h8, h9, h10, x0c, cpu0, n0, n1]) rfl ⟨_, _, rfl, ownNil _ _, ?_, fun k ek => by simp [Value.ownBlock] at ek, ?_⟩
  · have := ram_new (((set11 w1 (w.heap.size + 1 + 1) (.int .u8 0) (.int .u8 0) (.int .u8 0) (.int .u8 0) (.int .u16 0) (.bool false) (.bool false) (.bool false) (.bool false) (.bool false) (.bool false)).setCell ⟨w.heap.size + 1 + 1 + 1, 0, none⟩ (.slice none 0 0))) (base := w.heap.size) (by simp; omega)
    simpa using this
  · have hW := B0.out
    repeat (any_goals (first | (with_reducible exact hW) | (with_reducible refine Below.drew ?_) | (with_reducible refine Below.setCell ?_ ?_ _) | (with_reducible refine Below.alloc ?_ ?_ _)))
    all_goals (first | (with_reducible exact Nat.le_refl _) | (simp; done) | (simp; omega))

theorem Sit.start {w w4 : World} {g4 c4 base : Nat} {L : List Nat} (hb : Below w.heap.size w w4) (hz : w.heap.size + 4 ≤ w4.heap.size) (ho : OwnB w4 base (.slice (some ⟨g4, 0, none⟩) L.length c4) L) (hg : w.heap.size + 4 ≤ g4) :
    Sit (newF w) w 4 w4.heap.size (w4.alloc (.cells #[.slice (some ⟨g4, 0, none⟩) L.length c4, .slice none 0 0] 117)) ⟨L, []⟩ := by
  have hl := ((World.ownsRow.lt ho.2) g4 rfl).2
  refine ⟨⟨g4, c4, .slice none 0 0, BoxN.new _ _ _, ?_, World.ownsRow_nil _ _ _ _, ⟨?_, .inr hz⟩, ⟨?_, .inr hg⟩, by omega, fun k ek => by simp [Value.ownBlock] at ek⟩, Turn.of_below (hb.alloc (by omega) _), by rw [World.size_alloc]; omega, fun i hi => hi⟩
  · exact (OwnB.base ho (Nat.zero_le _)).below ((Below.refl _ _).alloc (Nat.le_refl _) _)
  · show w.heap.size ≤ w4.heap.size
    omega
  · show w.heap.size ≤ g4
    omega

theorem get_peek {L : List Nat} {pc : Nat} (h : ramN L.length = true) (hp : pc < 65536) : (⟨L, []⟩ : BusN).get pc = peekL L pc := by
  unfold BusN.get BusN.spot peekL
  rw [if_pos h]
  dsimp only
  rw [Nat.mod_eq_of_lt hp]

theorem ram_at {W : World} {n base : Nat} (hW : W.heap.size = n) (hb : base ≤ n) : OwnC (W.alloc (.cells #[] 105)).drew base (.slice (some ⟨n, 0, none⟩) 0 0) [] := by
  subst hW
  exact ram_new W hb

theorem OwnB.spanned {W W' : World} {v : Value} {L : List Nat} {base lo hi : Nat} (h : OwnB W base v L) (hs : Span lo hi W W') (hd : ∀ k, v.ownBlock = some k → hi ≤ k) : OwnB W' base v L := by
  obtain ⟨h0, h1, h2⟩ := h
  refine ⟨h0, h1, ?_⟩
  rcases h2 with h2 | ⟨g', cap', cur, rfl, hb, hh, rest⟩
  · exact .inl h2
  · exact .inr ⟨g', cap', cur, rfl, hb, (hs.block g' (Array.getElem?_eq_some_iff.1 hh).1 (.inr (hd g' rfl))).trans hh, rest⟩

theorem impL_PC (c : CpuN) (l : List UInt8) (m : Int) : (impL c l m).PC = c.PC := by
  simp only [impL, flagL, regL, CpuN.chg, CpuN.nz, apply_ite CpuN.PC, ite_self]

theorem imp_at (i : Nat) (m : Int) (h : (m = 0 ∧ i ∈ [17, 18, 19, 20, 21, 22, 37, 38, 39, 40, 49, 50, 51, 52, 53, 54, 55, 56]) ∨ (m = 1 ∧ i ∈ [9, 10, 11, 12])) (c : CpuN) (hc : c.ok) {u : CpuN} (hu : impL c (opTx i).toList m = u) (w : World) :
    Calls Try.prog 72 #[cpuV c, .string (opTx i), .int .i64 m] w fun e w' => e = .returned (cpuV u) ∧ Below w.heap.size w w' := by
  subst hu
  rcases h with ⟨rfl, hi⟩ | ⟨rfl, hi⟩
  · exact imp_any i hi c hc w
  · exact acc_any i hi c hc w

end Go.Proofs.Ytckfdbjjjgfbfaa
