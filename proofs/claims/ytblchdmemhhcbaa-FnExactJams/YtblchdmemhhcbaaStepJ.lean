/-
  Contracts over the program: what kinds of operations there are; the model's Jams; boxes of a step.
-/
import Derived.Test.YtblchdmemhhcbaaStepI
import Derived.Test.YtblchdmemhhcbaaOpD
namespace Go.Proofs.Ytblchdmemhhcbaa
set_option linter.unusedVariables false
set_option linter.unusedSimpArgs false
open Go.RowKit

def placeModes : List Int := [3, 4, 5, 6, 7, 8, 10, 11]

theorem op_k1 {b : Nat} (hb : b < 256) : opKind b = 1 → (opMode b = 0 ∧ opId b ∈ [17, 18, 19, 20, 21, 22, 37, 38, 39, 40, 49, 50, 51, 52, 53, 54, 55, 56]) ∨ (opMode b = 1 ∧ opId b ∈ [9, 10, 11, 12]) :=
  byte_all (p := fun b => opKind b = 1 → (opMode b = 0 ∧ opId b ∈ [17, 18, 19, 20, 21, 22, 37, 38, 39, 40, 49, 50, 51, 52, 53, 54, 55, 56]) ∨ (opMode b = 1 ∧ opId b ∈ [9, 10, 11, 12])) (by decide +kernel) hb

theorem op_k2 {b : Nat} (hb : b < 256) : opKind b = 2 → opId b ∈ [1, 2, 3, 4, 6, 7, 8, 14, 24, 25, 26, 31] ∧ (opMode b = 2 ∨ opMode b ∈ placeModes) :=
  byte_all (p := fun b => opKind b = 2 → opId b ∈ [1, 2, 3, 4, 6, 7, 8, 14, 24, 25, 26, 31] ∧ (opMode b = 2 ∨ opMode b ∈ placeModes)) (by decide +kernel) hb

theorem op_k3 {b : Nat} (hb : b < 256) : opKind b = 3 → opId b ∈ [5, 13, 23] ∧ opMode b ∈ placeModes :=
  byte_all (p := fun b => opKind b = 3 → opId b ∈ [5, 13, 23] ∧ opMode b ∈ placeModes) (by decide +kernel) hb

theorem op_k4 {b : Nat} (hb : b < 256) : opKind b = 4 → opId b ∈ [9, 10, 11, 12, 15, 16] ∧ opMode b ∈ placeModes :=
  byte_all (p := fun b => opKind b = 4 → opId b ∈ [9, 10, 11, 12, 15, 16] ∧ opMode b ∈ placeModes) (by decide +kernel) hb

theorem op_k5 {b : Nat} (hb : b < 256) : opKind b = 5 → opId b ∈ [41, 42, 43, 44, 45, 46, 47, 48] :=
  byte_all (p := fun b => opKind b = 5 → opId b ∈ [41, 42, 43, 44, 45, 46, 47, 48]) (by decide +kernel) hb

theorem op_k6 {b : Nat} (hb : b < 256) : opKind b ≠ 0 ∧ opKind b ≠ 1 ∧ opKind b ≠ 2 ∧ opKind b ≠ 3 ∧ opKind b ≠ 4 ∧ opKind b ≠ 5 → opId b = 32 ∧ (opMode b = 6 ∨ opMode b = 9) ∨ opId b = 28 ∧ opMode b = 6 ∨ opMode b = 0 ∧ (opId b = 30 ∨ opId b = 29 ∨ opId b = 27 ∨ opId b ∈ [33, 34, 35, 36]) :=
  byte_all (p := fun b => opKind b ≠ 0 ∧ opKind b ≠ 1 ∧ opKind b ≠ 2 ∧ opKind b ≠ 3 ∧ opKind b ≠ 4 ∧ opKind b ≠ 5 → opId b = 32 ∧ (opMode b = 6 ∨ opMode b = 9) ∨ opId b = 28 ∧ opMode b = 6 ∨ opMode b = 0 ∧ (opId b = 30 ∨ opId b = 29 ∨ opId b = 27 ∨ opId b ∈ [33, 34, 35, 36])) (by decide +kernel) hb

theorem op_ks {b : Nat} (hb : b < 256) : 0 ≤ opSize b ∧ opSize b ≤ 3 :=
  byte_all (p := fun b => 0 ≤ opSize b ∧ opSize b ≤ 3) (by decide +kernel) hb

theorem op_k0 {b : Nat} (hb : b < 256) : opKind b = 0 ↔ opId b = 0 :=
  byte_all (p := fun b => opKind b = 0 ↔ opId b = 0) (by decide +kernel) hb

theorem place_or {m : Int} (h : m ∈ placeModes) : m = 3 ∨ m = 4 ∨ m = 5 ∨ m = 6 ∨ m = 7 ∨ m = 8 ∨ m = 10 ∨ m = 11 := by simpa [placeModes] using h

/-- Is the byte at an address no operation? -/
def jamsN (L : List Nat) (pc : Nat) : Bool := ramN L.length && decide (opId (peekL L pc) = 0)

theorem peekL_lt {L : List Nat} {w : World} {a : Option Addr} (h : RowB w a L) (pc : Nat) : peekL L pc < 256 := by
  unfold peekL
  split
  · exact h.byte' _
  · omega

theorem specJams_any (a : Option Addr) (cap pc : Nat) (L : List Nat) (hpc : pc < 65536) (w : World) (hr : RowB w a L) :
    Calls Try.prog 17 #[ramV (.slice a L.length cap), .int .u16 pc] w fun e w' => e = .returned (.bool (jamsN L pc)) ∧ Below w.heap.size w w' := by
  have HO := fun w => specOk_any a L.length cap w
  cases h : ramN L.length with
  | false =>
    have e : jamsN L pc = false := by unfold jamsN; rw [h]; rfl
    rw [e]
    rw [h] at HO
    clear h e
    go_enter Try.func17, Try.ntmps17
    go_wp2_with fail
    refine (HO _).mono ?_
    rintro e w1 ⟨rfl, d1⟩
    have b1 := bstep ((Below.refl _ w).alloc (Nat.le_refl _) _) d1
    go_wp2
    go_ret
    exact ⟨rfl, b1⟩
  | true =>
    obtain ⟨x, hx⟩ : ∃ x, peekL L pc = x := ⟨_, rfl⟩
    have hxb : x < 256 := by rw [← hx]; exact peekL_lt hr pc
    obtain ⟨i, hi⟩ : ∃ i, opId x = i := ⟨_, rfl⟩
    have hil : i ≤ 56 := by rw [← hi]; exact opId_le hxb
    have e : jamsN L pc = decide (i = 0) := by unfold jamsN; rw [h, hx, hi]; rfl
    have hE := opTx_empty hil
    rw [e]
    rw [h] at HO
    have HX := Lib.hid hx
    have HI := Lib.hid hi
    have HR := Lib.hid hr
    have HE := Lib.hid hE
    obtain ⟨T, hT⟩ : ∃ T, opTx i = T := ⟨_, rfl⟩
    rw [hT] at hE
    have HT := Lib.hid hT
    clear h e hx hi hr hT
    go_enter Try.func17, Try.ntmps17
    go_wp2_with fail
    refine (HO _).mono ?_
    rintro e w1 ⟨rfl, d1⟩
    have q1 := (one_call d1).1
    have b1 := (one_call d1).2
    have c1 := q1.cell 0 _ rfl
    clear d1
    go_wp2_with fail
    refine (specPeek_any a cap pc L hpc _ (RowB.below HR.out b1)).mono ?_
    rintro e w2 ⟨rfl, d2⟩
    have b2 := bstep b1 d2
    clear b1 d2 c1 q1
    rw [HX.out]
    go_wp2_with fail
    refine (name_at x hxb HI.out _).mono ?_
    rintro e w3 ⟨rfl, d3⟩
    have b3 := bstep b2 d3
    clear b2 d3
    rw [HT.out]
    go_wp2
    go_ret
    refine ⟨?_, b3⟩
    first | rfl | (rw [hE]) | (simp [hE])

theorem four_call {w w1 : World} {cs rs zs us : Array Value} {t u v x : TypeId} (hb : Below ((((w.alloc (.cells cs t)).alloc (.cells rs u)).alloc (.cells zs v)).alloc (.cells us x)).heap.size ((((w.alloc (.cells cs t)).alloc (.cells rs u)).alloc (.cells zs v)).alloc (.cells us x)) w1) :
    BoxN w1 w.heap.size t cs ∧ BoxN w1 (w.heap.size + 1) u rs ∧ BoxN w1 (w.heap.size + 1 + 1) v zs ∧ BoxN w1 (w.heap.size + 1 + 1 + 1) x us ∧ Below w.heap.size w w1 ∧ w.heap.size + 4 ≤ w1.heap.size := by
  have al : ∀ (W : World) (o : Obj), Below W.heap.size W (W.alloc o) := fun W o => (Below.refl _ _).alloc (Nat.le_refl _) _
  have h0 := ((((BoxN.new w t cs).below (al _ (.cells rs u))).below (al _ (.cells zs v))).below (al _ (.cells us x))).below hb
  have h1 := (((BoxN.new (w.alloc (.cells cs t)) u rs).below (al _ (.cells zs v))).below (al _ (.cells us x))).below hb
  have h2 := ((BoxN.new ((w.alloc (.cells cs t)).alloc (.cells rs u)) v zs).below (al _ (.cells us x))).below hb
  have h3 := (BoxN.new (((w.alloc (.cells cs t)).alloc (.cells rs u)).alloc (.cells zs v)) x us).below hb
  simp only [World.size_alloc] at h1 h2 h3
  have hz := hb.size
  simp only [World.size_alloc] at hz
  refine ⟨h0, h1, h2, h3, ?_, by omega⟩
  exact bstep (bstep (bstep (bstep (al w _) (al _ _)) (al _ _)) (al _ _)) hb

end Go.Proofs.Ytblchdmemhhcbaa
