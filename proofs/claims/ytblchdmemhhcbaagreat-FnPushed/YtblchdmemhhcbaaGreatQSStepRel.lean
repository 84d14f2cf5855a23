/-
  Rows of cycles by blocks; what a call leaves whose answer is a processor, a memory and cycles; what the statement leaves that takes it.
-/
import Derived.Test.YtblchdmemhhcbaaGreatQSStepS
import Derived.Test.YtblchdmemhhcbaaGreatQSStepD
import Derived.Deep.RegionHeld3
import Derived.StillTailTactics
import Derived.Test.YtblchdmemhhcbaaGreatQSAluNum
import Derived.Test.YtblchdmemhhcbaaGreatQSSpan
namespace Go.Proofs.YtblchdmemhhcbaaGreat
set_option linter.unusedVariables false
set_option linter.unusedSimpArgs false
open Go.RowKit

/-- As many bytes, and not more than n cycles more. -/
def Grew (b b' : BusN) (n : Nat) : Prop := b'.mem.length = b.mem.length ∧ b'.log.length ≤ b.log.length + n

theorem Grew.same (b : BusN) (n : Nat) : Grew b b n := ⟨rfl, by omega⟩
theorem Grew.rd {b b' : BusN} {n a : Nat} (h : Grew b b' n) : Grew b (b'.rd a) (n + 1) := ⟨h.1, by have := h.2; simp [BusN.rd]; omega⟩
theorem Grew.put {b b' : BusN} {n a d : Nat} (h : Grew b b' n) : Grew b (b'.put a d) (n + 1) := ⟨by have := h.1; simp [BusN.put]; exact this, by have := h.2; simp [BusN.put]; omega⟩
theorem Grew.mono {b b' : BusN} {n m : Nat} (h : Grew b b' n) (hm : n ≤ m) : Grew b b' m := ⟨h.1, by have := h.2; omega⟩

theorem placeN_grew {b0 b : BusN} {n : Nat} (h : Grew b0 b n) (c : CpuN) (m k : Int) : Grew b0 (placeN b c m k).2 (n + 4) := by
  unfold placeN baseN
  dsimp only
  repeat' split
  all_goals first
    | with_reducible exact h.rd.rd.rd.rd
    | with_reducible exact h.rd.rd.rd.mono (by omega)
    | with_reducible exact h.rd.rd.mono (by omega)
    | with_reducible exact h.rd.mono (by omega)

theorem pushN_grew {b0 b : BusN} {n : Nat} (h : Grew b0 b n) (c : CpuN) (pc : Nat) (brk : Bool) (v : Nat) : Grew b0 (pushN b c pc brk v).2 (n + 5) := h.put.put.put.rd.rd

theorem branchN_grew {b0 b : BusN} {n : Nat} (h : Grew b0 b n) (c : CpuN) (l : List UInt8) : Grew b0 (branchN b c l).2 (n + 5) := by
  unfold branchN
  dsimp only
  split
  · dsimp only
    split
    · exact h.rd.rd.mono (by omega)
    · exact h.rd.rd.rd.mono (by omega)
  · exact h.rd.mono (by omega)

theorem holdN_grew {b0 b : BusN} {n : Nat} (h : Grew b0 b n) (c : CpuN) (l : List UInt8) : Grew b0 (holdN b c l).2 (n + 4) := by
  unfold holdN
  dsimp only
  repeat' split
  all_goals first
    | with_reducible exact h.rd.rd.mono (by omega)
    | with_reducible exact h.put.mono (by omega)

theorem goN_grew {b0 b : BusN} {n : Nat} (h : Grew b0 b n) (c : CpuN) (l : List UInt8) (m : Int) : Grew b0 (goN b c l m).2 (n + 6) := by
  unfold goN
  dsimp only
  repeat' split
  all_goals first
    | with_reducible exact (pushN_grew h.rd _ _ _ _).mono (by omega)
    | with_reducible exact (holdN_grew h.rd _ _).mono (by omega)
    | with_reducible exact h.rd.rd.rd.rd.rd.mono (by omega)
    | with_reducible exact h.rd.rd.put.put.rd.mono (by omega)
    | with_reducible exact h.rd.rd.rd.rd.mono (by omega)
    | with_reducible exact h.rd.rd.mono (by omega)

theorem dataN_grew {b0 b : BusN} {n : Nat} (h : Grew b0 b n) (c : CpuN) (code : Nat) : Grew b0 (dataN b c code).2 (n + 7) := by
  unfold dataN
  dsimp only
  repeat' split
  all_goals first
    | with_reducible exact h.rd.mono (by omega)
    | with_reducible exact (placeN_grew h _ _ _).rd.mono (by omega)
    | with_reducible exact (placeN_grew h _ _ _).put.mono (by omega)
    | with_reducible exact (placeN_grew h _ _ _).rd.put.put.mono (by omega)

theorem opN_grew (b : BusN) (c : CpuN) : Grew b (opN b c).2 8 := by
  have h := (Grew.same b 0).rd (a := c.PC)
  unfold opN
  dsimp only
  repeat' split
  all_goals first
    | with_reducible exact h.rd.mono (by omega)
    | with_reducible exact (branchN_grew h _ _).mono (by omega)
    | with_reducible exact (dataN_grew h _ _).mono (by omega)
    | with_reducible exact (goN_grew h _ _ _).mono (by omega)

theorem stepN_len (c : CpuN) (L : List Nat) : (stepN c L).2.mem.length ≤ L.length ∧ (stepN c L).2.log.length ≤ 8 := by
  unfold stepN
  split
  · split
    · exact ⟨Nat.le_refl _, by simp⟩
    · have h := opN_grew ⟨L, []⟩ c
      exact ⟨by have := h.1; simpa using Nat.le_of_eq this, by simpa using h.2⟩
  · exact ⟨by simp, by simp⟩

end Go.Proofs.YtblchdmemhhcbaaGreat

namespace Go.Proofs.YtblchdmemhhcbaaGreat
set_option linter.unusedVariables false
set_option linter.unusedSimpArgs false
open Go.RowKit

def ImplPoke : Prop := ∀ (a : Option Addr) (c addr b : Nat) (L : List Nat) (w : World), addr < 65536 → b < 256 → L.length ≤ 1048576 → L.length ≤ c → RowB w a L → Calls Tryz.prog 18 #[ramV (.slice a L.length c), .int .u16 addr, .int .u8 b] w fun e w' => ∃ v, e = .returned (ramV v) ∧ OwnB w' w.heap.size v (pokeL L addr b) ∧ Below w.heap.size w w'

def ImplFill : Prop := ∀ (a : Option Addr) (c addr : Nat) (L : List Nat) (ax : Option Addr) (cx : Nat) (X : List Nat) (w : World), addr < 65536 → L.length ≤ 1048576 → L.length ≤ c → X.length ≤ 1048576 → X.length ≤ cx → RowB w a L → RowB w ax X → Calls Tryz.prog 20 #[ramV (.slice a L.length c), .int .u16 addr, .slice ax X.length cx] w fun e w' => ∃ v, e = .returned (ramV v) ∧ OwnB w' w.heap.size v (fillL L addr X) ∧ Below w.heap.size w w'

/-- Two boxes of one cell, as they stood behind a call. -/
theorem two_keep {w w1 : World} {B C : Nat} {u v : Value} (hb : Below w.heap.size w w1) (h : w.cell? ⟨B, 0, none⟩ = some u ∧ w.cell? ⟨C, 0, none⟩ = some v ∧ B < w.heap.size ∧ C < w.heap.size) : w1.cell? ⟨B, 0, none⟩ = some u ∧ w1.cell? ⟨C, 0, none⟩ = some v ∧ B < w1.heap.size ∧ C < w1.heap.size :=
  ⟨cellKept hb h.1 h.2.2.1, cellKept hb h.2.1 h.2.2.2, Nat.lt_of_lt_of_le h.2.2.1 hb.size, Nat.lt_of_lt_of_le h.2.2.2 hb.size⟩

end Go.Proofs.YtblchdmemhhcbaaGreat

namespace Go.Proofs.YtblchdmemhhcbaaGreat
set_option linter.unusedVariables false
set_option linter.unusedSimpArgs false
open Go.RowKit

def ImplServe : Prop := ∀ (c : CpuN) (a : Option Addr) (cap : Nat) (L : List Nat) (nmi : Bool) (w : World), c.ok → L.length ≤ 1048576 → L.length ≤ cap → RowB w a L → Calls Tryz.prog 16 #[cpuV c, ramV (.slice a L.length cap), .bool nmi] w (Stepped w (servedN c L nmi))

def ImplStep : Prop := ∀ (c : CpuN) (a : Option Addr) (cap : Nat) (L : List Nat) (w : World), c.ok → L.length ≤ 1048576 → L.length ≤ cap → RowB w a L → Calls Tryz.prog 10 #[cpuV c, ramV (.slice a L.length cap)] w (Stepped w (stepN c L))

end Go.Proofs.YtblchdmemhhcbaaGreat

namespace Go.Proofs.YtblchdmemhhcbaaGreat
set_option linter.unusedVariables false
set_option linter.unusedSimpArgs false
open Go.RowKit

/-- A row of cycles that can be read. -/
def RowC (w : World) (a : Option Addr) (L : List CycN) : Prop :=
  0 < L.length → ∃ g o, a = some ⟨g, o, none⟩ ∧ g < w.heap.size ∧ ∀ i (h : i < L.length), w.cell? ⟨g, o + i * 3, none⟩ = some (.int .u16 (L[i].addr : Int)) ∧ w.cell? ⟨g, o + i * 3 + 1, none⟩ = some (.int .u8 (L[i].data : Int)) ∧ w.cell? ⟨g, o + i * 3 + 2, none⟩ = some (.bool L[i].wr)

theorem cyc_at (L : List CycN) : ∀ (i : Nat) (h : i < L.length), (L.flatMap cycCells)[i * 3]? = some (.int .u16 (L[i].addr : Int)) ∧ (L.flatMap cycCells)[i * 3 + 1]? = some (.int .u8 (L[i].data : Int)) ∧ (L.flatMap cycCells)[i * 3 + 2]? = some (.bool L[i].wr) := by
  induction L with
  | nil => intro i h; simp at h
  | cons c r ih =>
    intro i h
    cases i with
    | zero => simp [cycCells]
    | succ i =>
      have e1 : (i + 1) * 3 = i * 3 + 3 := by omega
      have e2 : (i + 1) * 3 + 1 = i * 3 + 1 + 3 := by omega
      have e3 : (i + 1) * 3 + 2 = i * 3 + 2 + 3 := by omega
      obtain ⟨h1, h2, h3⟩ := ih i (by simpa using h)
      rw [List.flatMap_cons, e2, e3, e1]
      refine ⟨?_, ?_, ?_⟩
      all_goals
        rw [List.getElem?_append_right (by simp [cycCells])]
        simp only [cycCells, List.length_cons, List.length_nil, Nat.zero_add, Nat.add_sub_cancel, List.getElem_cons_succ]
        assumption

theorem OwnC.row {w : World} {base : Nat} {a : Option Addr} {n cap : Nat} {L : List CycN} (h : OwnC w base (.slice a n cap) L) : n = L.length ∧ RowC w a L := by
  have h' := h
  obtain ⟨_, h2⟩ := h
  rcases h2 with ⟨h2, hn⟩ | ⟨g, cap', cur, e, hb, hh, hnc, _⟩
  · simp only [Value.slice.injEq] at h2
    refine ⟨by omega, fun h => by omega⟩
  · simp only [Value.slice.injEq] at e
    obtain ⟨rfl, rfl, rfl⟩ := e
    refine ⟨rfl, fun h0 => ⟨g, 0, rfl, (Array.getElem?_eq_some_iff.1 hh).1, fun i hi => ?_⟩⟩
    obtain ⟨c1, c2, c3⟩ := cyc_at L i hi
    simp only [Nat.zero_add]
    exact ⟨(World.ownsRow.cellAt h' (i * 3) (by omega)).trans c1, (World.ownsRow.cellAt h' (i * 3 + 1) (by omega)).trans c2, (World.ownsRow.cellAt h' (i * 3 + 2) (by omega)).trans c3⟩

theorem RowC.below {w w' : World} {a : Option Addr} {L : List CycN} (h : RowC w a L) (hb : Below w.heap.size w w') : RowC w' a L := fun h0 => by
  obtain ⟨g, o, rfl, hg, hc⟩ := h h0
  refine ⟨g, o, rfl, Nat.lt_of_lt_of_le hg hb.size, fun i hi => ?_⟩
  obtain ⟨h1, h2, h3⟩ := hc i hi
  exact ⟨cellKept hb h1 hg, cellKept hb h2 hg, cellKept hb h3 hg⟩

theorem eqCyc_true (x y : Int) (b : Bool) (w : World) :
    Calls Tryz.prog 60 #[.agg #[.int .u16 x, .int .u8 y, .bool b], .agg #[.int .u16 x, .int .u8 y, .bool b]] w fun e w' => e = .returned (.bool true) ∧ Below w.heap.size w w' := by
  go_enter Tryz.func60, Tryz.ntmps60
  go_wp2
  go_ret
  exact ⟨rfl, ((Below.refl _ _).alloc (Nat.le_refl _) _).alloc (by simp) _⟩

set_option maxRecDepth 100000 in
theorem eqCycS_true (a1 a2 : Option Addr) (c1 c2 : Nat) (L : List CycN) (w : World) (hl : L.length ≤ 1048576) (h1 : RowC w a1 L) (h2 : RowC w a2 L) :
    Calls Tryz.prog 27 #[.slice a1 L.length c1, .slice a2 L.length c2] w fun e w' => e = .returned (.bool true) ∧ Below w.heap.size w w' := by
  have H1 := Lib.hid h1
  have H2 := Lib.hid h2
  clear h1 h2
  go_enter Tryz.func27, Tryz.ntmps27
  go_wp2
  go_loopw [5] (fun i wr => ∃ k : Nat, k ≤ L.length ∧ i = .int .i64 k ∧ Below w.heap.size w wr) (fun i _ => L.length - (intOf i).toNat)
  case atStart => exact ⟨0, Nat.zero_le _, rfl, Below.refl _ _⟩
  case round =>
    obtain ⟨k, hk, rfl, hb⟩ := hrel
    by_cases hp : k < L.length
    · obtain ⟨g1, o1, rfl, _, e1⟩ := (H1.out.below hb) (by omega)
      obtain ⟨g2, o2, rfl, _, e2⟩ := (H2.out.below hb) (by omega)
      obtain ⟨f1, f2, f3⟩ := e1 k hp
      obtain ⟨f4, f5, f6⟩ := e2 k hp
      clear e1 e2
      obtain ⟨x, hx⟩ : ∃ x, L[k].addr = x := ⟨_, rfl⟩
      obtain ⟨y, hy⟩ : ∃ x, L[k].data = x := ⟨_, rfl⟩
      obtain ⟨b, hbb⟩ : ∃ x, L[k].wr = x := ⟨_, rfl⟩
      rw [hx] at f1 f4
      rw [hy] at f2 f5
      rw [hbb] at f3 f6
      clear hx hy hbb
      have ik : (0 : Int) ≤ (k : Int) ∧ (k : Int) < (L.length : Int) := by omega
      go_wp2_with fail
      go_still_tail 8, (by kernel_rfl)
      change wpList _ _ _ _ _ wr.drew
      go_wp2_with fail
      refine (eqCyc_true _ _ _ _).mono ?_
      rintro e w1 ⟨rfl, d1⟩
      have b1 := bstep hb.drew d1
      go_wp2
      go_roundw
      case rel => exact ⟨k + 1, by omega, by go_num, b1⟩
      case measure => simp [intOf]; omega
    · go_wp2
      go_ret
      exact ⟨rfl, hb⟩

/-- Marks, from k on. -/
def markC (k : Nat) : CycN := ⟨k % 65536, (k + 1) % 256, (k + 2) % 3 == 0⟩

def marksC : Nat → Nat → List CycN
  | _, 0 => []
  | k, n + 1 => markC k :: marksC (k + 3) n

theorem marksC_len : ∀ (n k : Nat), (marksC k n).length = n
  | 0, _ => rfl
  | n + 1, k => by simp [marksC, marksC_len n]

theorem marksC_at : ∀ (n k i : Nat) (h : i < (marksC k n).length), (marksC k n)[i] = markC (k + 3 * i)
  | 0, k, i, h => by simp [marksC] at h
  | n + 1, k, 0, h => by simp [marksC]
  | n + 1, k, i + 1, h => by
    simp only [marksC, List.getElem_cons_succ]
    rw [marksC_at n (k + 3) i]
    congr 1
    omega

theorem marksC_snoc : ∀ (n k : Nat), marksC k (n + 1) = marksC k n ++ [markC (k + 3 * n)]
  | 0, k => by simp [marksC]
  | n + 1, k => by
    rw [marksC, marksC_snoc n (k + 3), marksC, List.cons_append, show k + 3 + 3 * n = k + 3 * (n + 1) by omega]

set_option maxRecDepth 100000 in
theorem heldC_any (a : Option Addr) (n cap k0 : Nat) (w : World) (hn : n ≤ 1048576) (hk : k0 ≤ 100000000) (h : RowC w a (marksC k0 n)) :
    Calls Tryz.prog 31 #[.slice a n cap, .int .i64 k0] w fun e w' => e = .returned (.int .i64 (k0 + 3 * n : Nat)) ∧ Below w.heap.size w w' := by
  have H := Lib.hid h
  clear h
  go_enter Tryz.func31, Tryz.ntmps31
  go_wp2
  go_loop [1, 5] (fun kk i => ∃ (j : Nat), j ≤ n ∧ i = .int .i64 j ∧ kk = .int .i64 (k0 + 3 * j : Nat)) (fun _ i => n - (intOf i).toNat)
  case atStart => exact ⟨0, Nat.zero_le _, rfl, rfl⟩
  case round =>
    obtain ⟨j, hj, rfl, rfl⟩ := hrel
    by_cases hp : j < n
    · obtain ⟨g, o, rfl, _, hc⟩ := H.out (by rw [marksC_len]; omega)
      obtain ⟨f1, f2, f3⟩ := hc j (by rw [marksC_len]; exact hp)
      rw [marksC_at] at f1 f2 f3
      obtain ⟨K, hK⟩ : ∃ K, k0 + 3 * j = K := ⟨_, rfl⟩
      rw [hK] at f1 f2 f3 ⊢
      have hKb : K ≤ 200000000 := by omega
      have HK := Lib.hid hK
      clear hc hK
      unfold markC at f1 f2 f3
      dsimp only at f1 f2 f3
      have e1 : (((K % 65536 : Nat) : Int)) = IntKind.u16.wrap (K : Int) := by simp [IntKind.wrap, IntKind.bits, IntKind.signed]
      have e2 : ((((K + 1) % 256 : Nat) : Int)) = ((K : Int) + 1) % 256 := by omega
      have e3 : ((K + 2) % 3 == 0) = (((K : Int) + 1 + 1) % 3 == 0) := by
        rw [Bool.eq_iff_iff]
        simp only [beq_iff_eq]
        omega
      rw [e1] at f1
      rw [e2] at f2
      rw [e3] at f3
      clear e1 e2 e3
      go_wp2
      go_round
      case rel => exact ⟨j + 1, by omega, by go_num, by have := HK.out; go_num⟩
      case measure => simp [intOf]; omega
    · obtain rfl : j = n := by omega
      go_wp2
      go_ret
      exact ⟨rfl, Below.refl _ _⟩

theorem flat_len (A : List CycN) : (A.flatMap cycCells).length = A.length * 3 := by
  induction A with
  | nil => rfl
  | cons c r ih => rw [List.flatMap_cons, List.length_append, ih, List.length_cons]; simp [cycCells]; omega

theorem flat_set (A B : List CycN) (c c' : CycN) (n : Nat) (hn : n = A.length) : (((((A ++ c :: B).flatMap cycCells).set (n * 3) (.int .u16 (c'.addr : Int))).set (n * 3 + 1) (.int .u8 (c'.data : Int))).set (n * 3 + 2) (.bool c'.wr)) = (A ++ c' :: B).flatMap cycCells := by
  have hl := flat_len A
  rw [← hn] at hl
  rw [List.flatMap_append, List.flatMap_append, List.flatMap_cons, List.flatMap_cons]
  have st : ∀ (Y : List Value) (i : Nat) (x : Value), (A.flatMap cycCells ++ Y).set (n * 3 + i) x = A.flatMap cycCells ++ Y.set i x := fun Y i x => by
    rw [List.set_append, if_neg (by omega), hl, show n * 3 + i - n * 3 = i by omega]
  have st0 : ∀ (Y : List Value) (x : Value), (A.flatMap cycCells ++ Y).set (n * 3) x = A.flatMap cycCells ++ Y.set 0 x := fun Y x => st Y 0 x
  rw [st0, st, st]
  rfl

theorem markedC_step (L : List CycN) (k0 j : Nat) (h : j < L.length) : ∃ c B, marksC k0 j ++ L.drop j = marksC k0 j ++ c :: B ∧ marksC k0 (j + 1) ++ L.drop (j + 1) = marksC k0 j ++ markC (k0 + 3 * j) :: B := by
  refine ⟨L[j], L.drop (j + 1), ?_, ?_⟩
  · rw [List.drop_eq_getElem_cons h]
  · rw [marksC_snoc, List.append_assoc]; rfl

set_option maxRecDepth 100000 in
theorem markC_any (g n cap k0 : Nat) (base : Nat) (L : List CycN) (w : World) (hn : n = L.length) (hn2 : n ≤ 1048576) (hk : k0 ≤ 100000000) (h : OwnC w base (.slice (some ⟨g, 0, none⟩) n cap) L) :
    Calls Tryz.prog 29 #[.slice (some ⟨g, 0, none⟩) n cap, .int .i64 k0] w fun e w' => e = .returned (.int .i64 (k0 + 3 * n : Nat)) ∧ OwnC w' base (.slice (some ⟨g, 0, none⟩) n cap) (marksC k0 n) ∧ w.grownBy w' (some g) := by
  subst hn
  have H := Lib.hid h
  clear h
  go_enter Tryz.func29, Tryz.ntmps29
  go_wp2
  go_loopw [1, 5] (fun kk i wr => ∃ (j : Nat), j ≤ L.length ∧ i = .int .i64 j ∧ kk = .int .i64 (k0 + 3 * j : Nat) ∧ Hid (wr.ownsRow base 39 3 (.slice (some ⟨g, 0, none⟩) L.length cap) L.length ((marksC k0 j ++ L.drop j).flatMap cycCells) ∧ w.grownBy wr (some g))) (fun _ i _ => L.length - (intOf i).toNat)
  case atStart => exact ⟨0, Nat.zero_le _, rfl, rfl, Lib.hid ⟨by simpa [marksC, OwnC] using H.out, World.grownBy.refl _ _⟩⟩
  case round =>
    obtain ⟨j, hj, rfl, rfl, HO⟩ := hrel
    by_cases hp : j < L.length
    · obtain ⟨hO, hgr⟩ := HO.out
      obtain ⟨c, B, eA, eB⟩ := markedC_step L k0 j hp
      rw [eA] at hO
      have hlen : (marksC k0 j ++ c :: B).length = L.length := by rw [← eA, List.length_append, marksC_len, List.length_drop]; omega
      have hj2 : j < (marksC k0 j ++ c :: B).length := by omega
      have hcell := fun (i : Nat) (hi : i < L.length * 3) => World.ownsRow.cellAt hO i hi
      obtain ⟨k1, k2, k3⟩ := cyc_at (marksC k0 j ++ c :: B) j hj2
      have f1 := (hcell (j * 3) (by omega)).trans k1
      have f2 := (hcell (j * 3 + 1) (by omega)).trans k2
      have f3 := (hcell (j * 3 + 2) (by omega)).trans k3
      have z1 := World.ownsRow.frozenAt hO (j * 3)
      have z2 := World.ownsRow.frozenAt hO (j * 3 + 1)
      have z3 := World.ownsRow.frozenAt hO (j * 3 + 2)
      obtain ⟨K, hK⟩ : ∃ K, k0 + 3 * j = K := ⟨_, rfl⟩
      rw [hK] at eB ⊢
      have s1 := World.ownsRow.stored hO (j * 3) (.int .u16 ((markC K).addr : Int))
      have s2 := World.ownsRow.stored s1.1 (j * 3 + 1) (.int .u8 ((markC K).data : Int))
      have s3 := World.ownsRow.stored s2.1 (j * 3 + 2) (.bool (markC K).wr)
      rw [flat_set _ _ _ _ j (marksC_len j k0).symm, ← eB] at s3
      have HST := Lib.hid (And.intro s3.1 (grownB_trans (grownB_trans (grownB_trans hgr s1.2) s2.2) s3.2))
      have hKb : K ≤ 200000000 := by omega
      have HK := Lib.hid hK
      obtain ⟨u1, hu1⟩ : ∃ u, (marksC k0 j ++ c :: B)[j].addr = u := ⟨_, rfl⟩
      obtain ⟨u2, hu2⟩ : ∃ u, (marksC k0 j ++ c :: B)[j].data = u := ⟨_, rfl⟩
      obtain ⟨u3, hu3⟩ : ∃ u, (marksC k0 j ++ c :: B)[j].wr = u := ⟨_, rfl⟩
      rw [hu1] at f1
      rw [hu2] at f2
      rw [hu3] at f3
      clear hO hgr eA eB hlen hj2 hcell k1 k2 k3 s1 s2 s3 hK hu1 hu2 hu3 HO
      have ik : (0 : Int) ≤ (j : Int) ∧ (j : Int) < (L.length : Int) := by omega
      go_wp2
      go_roundw
      case rel =>
        refine ⟨j + 1, by omega, by go_num, by have := HK.out; go_num, Lib.hid ?_⟩
        have e1 : (((markC K).addr : Nat) : Int) = IntKind.u16.wrap (K : Int) := by unfold markC; simp [IntKind.wrap, IntKind.bits, IntKind.signed]
        have e2 : (((markC K).data : Nat) : Int) = ((K : Int) + 1) % 256 := by unfold markC; dsimp only; omega
        have e3 : (markC K).wr = (((K : Int) + 1 + 1) % 3 == 0) := by
          unfold markC
          rw [Bool.eq_iff_iff]
          simp only [beq_iff_eq]
          omega
        have hh := HST.out
        rw [e1, e2, e3] at hh
        exact hh
      case measure => simp [intOf]; omega
    · obtain rfl : j = L.length := by omega
      obtain ⟨hO, hgr⟩ := HO.out
      have hO2 : OwnC wr base (.slice (some ⟨g, 0, none⟩) L.length cap) (marksC k0 L.length) := by
        unfold OwnC
        rw [marksC_len]
        simpa using hO
      clear hO HO
      go_wp2
      go_ret
      exact ⟨rfl, hO2, hgr⟩

theorem markC_empty (a : Option Addr) (cap k0 : Nat) (w : World) (hk : k0 ≤ 100000000) :
    Calls Tryz.prog 29 #[.slice a 0 cap, .int .i64 k0] w fun e w' => e = .returned (.int .i64 (k0 : Nat)) ∧ w = w' := by
  go_enter Tryz.func29, Tryz.ntmps29
  go_wp2
  go_loopw [1, 5] (fun kk i wr => i = .int .i64 0 ∧ kk = .int .i64 k0 ∧ wr = w) (fun _ _ _ => 0)
  case atStart => exact ⟨rfl, rfl, rfl⟩
  case round =>
    obtain ⟨rfl, rfl, rfl⟩ := hrel
    go_wp2
    go_ret
    exact ⟨rfl, rfl⟩

end Go.Proofs.YtblchdmemhhcbaaGreat

namespace Go.Proofs.YtblchdmemhhcbaaGreat
set_option linter.unusedVariables false
set_option linter.unusedSimpArgs false
open Go.RowKit

set_option maxRecDepth 100000 in
theorem toFlags_cpu (n v d i z c : Bool) (w : World) :
    Calls Tryz.prog 56 #[.agg #[.bool n, .bool v, .bool d, .bool i, .bool z, .bool c]] w fun e w' => e = .returned (.agg #[.bool n, .bool v, .bool d, .bool i, .bool z, .bool c]) ∧ Below w.heap.size w w' := by
  go_enter Tryz.func56, Tryz.ntmps56
  go_wp2
  exact bodyPost_ret (v := .agg #[.bool n, .bool v, .bool d, .bool i, .bool z, .bool c]) (by simp [results, Tryz.results56, go_sem]) rfl ⟨rfl, (((Below.refl _ _).alloc (Nat.le_refl _) _).alloc (by simp) _).alloc (by simp; omega) _⟩

set_option maxRecDepth 100000 in
theorem toCpu_any (c : CpuN) (w : World) :
    Calls Tryz.prog 23 #[cpuV c] w fun e w' => e = .returned (cpuV c) ∧ Below w.heap.size w w' := by
  obtain ⟨cA, cX, cY, cS, cP, cN, cV, cD, cI, cZ, cC⟩ := c
  go_enter Tryz.func23, Tryz.ntmps23
  go_wp2_with fail
  refine (toFlags_cpu _ _ _ _ _ _ _).mono ?_
  rintro e w1 ⟨rfl, d1⟩
  have p3 := (BoxN.new ((w.alloc (.cells (cpuCells ⟨cA, cX, cY, cS, cP, cN, cV, cD, cI, cZ, cC⟩) 50)).alloc (.cells #[.int .u8 0, .int .u8 0, .int .u8 0, .int .u8 0, .int .u16 0, .bool false, .bool false, .bool false, .bool false, .bool false, .bool false] 28)) 28 #[.int .u8 (cA : Int), .int .u8 (cX : Int), .int .u8 (cY : Int), .int .u8 (cS : Int), .int .u16 (cP : Int), .bool false, .bool false, .bool false, .bool false, .bool false, .bool false]).below d1
  have p2 := ((BoxN.new (w.alloc (.cells (cpuCells ⟨cA, cX, cY, cS, cP, cN, cV, cD, cI, cZ, cC⟩) 50)) 28 #[.int .u8 0, .int .u8 0, .int .u8 0, .int .u8 0, .int .u16 0, .bool false, .bool false, .bool false, .bool false, .bool false, .bool false]).below ((Below.refl _ _).alloc (Nat.le_refl _) (.cells #[.int .u8 (cA : Int), .int .u8 (cX : Int), .int .u8 (cY : Int), .int .u8 (cS : Int), .int .u16 (cP : Int), .bool false, .bool false, .bool false, .bool false, .bool false, .bool false] 28))).below d1
  rw [World.size_alloc, World.size_alloc] at p3
  rw [World.size_alloc] at p2
  have b1 := bstep ((((Below.refl _ w).alloc (Nat.le_refl _) _).alloc (by simp) _).alloc (by simp; omega) _) d1
  clear d1
  have q3_0 := p3.cell 0 _ rfl
  have q2_0 := p2.cell 0 _ rfl
  have q3_1 := p3.cell 1 _ rfl
  have q2_1 := p2.cell 1 _ rfl
  have q3_2 := p3.cell 2 _ rfl
  have q2_2 := p2.cell 2 _ rfl
  have q3_3 := p3.cell 3 _ rfl
  have q2_3 := p2.cell 3 _ rfl
  have q3_4 := p3.cell 4 _ rfl
  have q2_4 := p2.cell 4 _ rfl
  have q3_5 := p3.cell 5 _ rfl
  have q2_5 := p2.cell 5 _ rfl
  have q3_6 := p3.cell 6 _ rfl
  have q2_6 := p2.cell 6 _ rfl
  have q3_7 := p3.cell 7 _ rfl
  have q2_7 := p2.cell 7 _ rfl
  have q3_8 := p3.cell 8 _ rfl
  have q2_8 := p2.cell 8 _ rfl
  have q3_9 := p3.cell 9 _ rfl
  have q2_9 := p2.cell 9 _ rfl
  have q3_10 := p3.cell 10 _ rfl
  have q2_10 := p2.cell 10 _ rfl
  have f3 := fun k => p3.frozen k
  have f2 := fun k => p2.frozen k
  go_wp2
  refine bodyPost_ret (v := cpuV ⟨cA, cX, cY, cS, cP, cN, cV, cD, cI, cZ, cC⟩) (by simp [results, Tryz.results23, go_sem, q2_0, q2_1, q2_2, q2_3, q2_4, q2_5, q2_6, q2_7, q2_8, q2_9, q2_10]) rfl ⟨rfl, ?_⟩
  repeat (any_goals (first | (with_reducible exact b1) | (with_reducible refine Below.setCell ?_ ?_ _)))
  all_goals (first | (simp; done) | (simp; omega))

set_option maxRecDepth 100000 in
theorem eqFlags_any (n v d i z c : Bool) (w : World) :
    Calls Tryz.prog 58 #[.agg #[.bool n, .bool v, .bool d, .bool i, .bool z, .bool c], .agg #[.bool n, .bool v, .bool d, .bool i, .bool z, .bool c]] w fun e w' => e = .returned (.bool true) ∧ Below w.heap.size w w' := by
  go_enter Tryz.func58, Tryz.ntmps58
  go_wp2
  go_ret
  exact ⟨rfl, ((Below.refl _ _).alloc (Nat.le_refl _) _).alloc (by simp) _⟩

set_option maxRecDepth 100000 in
theorem eqCpu_any (c : CpuN) (w : World) :
    Calls Tryz.prog 25 #[cpuV c, cpuV c] w fun e w' => e = .returned (.bool true) ∧ Below w.heap.size w w' := by
  obtain ⟨cA, cX, cY, cS, cP, cN, cV, cD, cI, cZ, cC⟩ := c
  have b0 : Below w.heap.size w ((w.alloc (.cells (cpuCells ⟨cA, cX, cY, cS, cP, cN, cV, cD, cI, cZ, cC⟩) 28)).alloc (.cells (cpuCells ⟨cA, cX, cY, cS, cP, cN, cV, cD, cI, cZ, cC⟩) 28)) := ((Below.refl _ _).alloc (Nat.le_refl _) _).alloc (by simp) _
  go_enter Tryz.func25, Tryz.ntmps25
  go_wp2_with fail
  refine (eqFlags_any _ _ _ _ _ _ _).mono ?_
  rintro e w1 ⟨rfl, d1⟩
  have b1 := bstep b0 d1
  go_wp2
  go_ret
  exact ⟨rfl, b1⟩

end Go.Proofs.YtblchdmemhhcbaaGreat

namespace Go.Proofs.YtblchdmemhhcbaaGreat
set_option linter.unusedVariables false
set_option linter.unusedSimpArgs false
open Go.RowKit

/-- A row of cycles of its own, in the blocks from lo up to hi. -/
def SegC (w : World) (lo hi : Nat) (v : Value) (L : List CycN) : Prop := OwnC w lo v L ∧ ∀ k, v.ownBlock = some k → k < hi

theorem SegC.below {w w' : World} {lo hi : Nat} {v : Value} {L : List CycN} (h : SegC w lo hi v L) (hb : Below w.heap.size w w') : SegC w' lo hi v L := ⟨ownC_below h.1 hb, h.2⟩

theorem SegC.drew {w : World} {lo hi : Nat} {v : Value} {L : List CycN} (h : SegC w lo hi v L) : SegC w.drew lo hi v L := h

theorem SegC.span {w w' : World} {lo hi lo' hi' : Nat} {v : Value} {L : List CycN} (h : SegC w lo hi v L) (hs : Span lo' hi' w w') (hd : hi ≤ lo' ∨ hi' ≤ lo) : SegC w' lo hi v L := by
  refine ⟨?_, h.2⟩
  obtain ⟨h1, h2⟩ := h.1
  refine ⟨h1, ?_⟩
  rcases h2 with hn | ⟨g, cap, cur, hv, hb, hg, hrest⟩
  · exact .inl hn
  · have hgl : g < hi := h.2 g (by rw [hv]; rfl)
    exact .inr ⟨g, cap, cur, hv, hb, (hs.block g (Array.getElem?_eq_some_iff.1 hg).1 (by omega)).trans hg, hrest⟩

theorem SegC.row {w : World} {lo hi : Nat} {a : Option Addr} {n cap : Nat} {L : List CycN} (h : SegC w lo hi (.slice a n cap) L) : RowC w a L := (OwnC.row h.1).2

theorem markC_seg (a : Option Addr) (cap k0 lo hi : Nat) (L : List CycN) (w : World) (hl : L.length ≤ 1048576) (hk : k0 ≤ 100000000) (h : SegC w lo hi (.slice a L.length cap) L) :
    Calls Tryz.prog 29 #[.slice a L.length cap, .int .i64 k0] w fun e w' => e = .returned (.int .i64 (k0 + 3 * L.length : Nat)) ∧ SegC w' lo hi (.slice a L.length cap) (marksC k0 L.length) ∧ Span lo hi w w' := by
  by_cases h0 : L.length = 0
  · obtain rfl : L = [] := List.length_eq_zero_iff.1 h0
    refine (markC_empty a cap k0 w hk).mono ?_
    rintro e w' ⟨rfl, rfl⟩
    exact ⟨rfl, h, Span.refl _ _ _⟩
  · have h1 := h.1
    rcases h1.2 with ⟨_, hn⟩ | ⟨g, cp, cur, hv, hb, hg, _⟩
    · omega
    · simp only [Value.slice.injEq] at hv
      obtain ⟨rfl, _, rfl⟩ := hv
      refine (markC_any g L.length cap k0 lo L w rfl hl hk h1).mono ?_
      rintro e w' ⟨rfl, ho, hgr⟩
      exact ⟨rfl, ⟨ho, h.2⟩, Span.of_grown hgr hb (h.2 g rfl)⟩

theorem heldC_seg (a : Option Addr) (cap k0 n lo hi : Nat) (w : World) (hn : n ≤ 1048576) (hk : k0 ≤ 100000000) (h : SegC w lo hi (.slice a n cap) (marksC k0 n)) :
    Calls Tryz.prog 31 #[.slice a n cap, .int .i64 k0] w fun e w' => e = .returned (.int .i64 (k0 + 3 * n : Nat)) ∧ Below w.heap.size w w' := heldC_any a n cap k0 w hn hk h.row

/-- What such a call leaves. -/
def Steps3 (V : World) (r : CpuN × BusN) (e : Ending) (W : World) : Prop :=
  ∃ a cap a2 cap2 lo hi lo2 hi2, e = .returned (.tuple #[cpuV r.1, ramV (.slice a r.2.mem.length cap), .slice a2 r.2.log.length cap2]) ∧ SegB W lo hi (.slice a r.2.mem.length cap) r.2.mem ∧ SegC W lo2 hi2 (.slice a2 r.2.log.length cap2) r.2.log ∧
    (V.heap.size ≤ lo ∧ hi ≤ W.heap.size ∧ V.heap.size ≤ lo2 ∧ hi2 ≤ W.heap.size ∧ lo ≤ hi ∧ lo2 ≤ hi2 ∧ (hi ≤ lo2 ∨ hi2 ≤ lo)) ∧ Below V.heap.size V W

theorem Stepped.three {V W : World} {r : CpuN × BusN} {e : Ending} (h : Stepped V r e W) : Steps3 V r e W := by
  obtain ⟨v, u, rfl, ho, hc, hne, hb⟩ := h
  have hz := hb.size
  have B1 : ∃ a cap, v = .slice a r.2.mem.length cap ∧ ((∃ g, v.ownBlock = some g ∧ V.heap.size ≤ g ∧ g < W.heap.size) ∨ v.ownBlock = none) := by
    obtain ⟨h1, h2⟩ := ho.2
    rcases h2 with ⟨hn, h0⟩ | ⟨g, cp, cur, hv, hg, hh, _⟩
    · exact ⟨none, 0, by rw [hn]; rw [show r.2.mem.length = 0 by simpa using h0], .inr (by rw [hn]; rfl)⟩
    · exact ⟨_, _, hv, .inl ⟨g, by rw [hv]; rfl, hg, (Array.getElem?_eq_some_iff.1 hh).1⟩⟩
  have B2 : ∃ a cap, u = .slice a r.2.log.length cap ∧ ((∃ g, u.ownBlock = some g ∧ V.heap.size ≤ g ∧ g < W.heap.size) ∨ u.ownBlock = none) := by
    obtain ⟨h1, h2⟩ := hc
    rcases h2 with ⟨hn, h0⟩ | ⟨g, cp, cur, hv, hg, hh, _⟩
    · exact ⟨none, 0, by rw [hn]; rw [show r.2.log.length = 0 by simpa using h0], .inr (by rw [hn]; rfl)⟩
    · exact ⟨_, _, hv, .inl ⟨g, by rw [hv]; rfl, hg, (Array.getElem?_eq_some_iff.1 hh).1⟩⟩
  obtain ⟨a, cap, rfl, A1⟩ := B1
  obtain ⟨a2, cap2, rfl, A2⟩ := B2
  have own1 : ∀ n, (∀ k, (Value.slice a r.2.mem.length cap).ownBlock = some k → n ≤ k) → OwnB W n (.slice a r.2.mem.length cap) r.2.mem := fun n hn => ⟨ho.1, ownsRow_up ho.2 hn⟩
  have own2 : ∀ n, (∀ k, (Value.slice a2 r.2.log.length cap2).ownBlock = some k → n ≤ k) → OwnC W n (.slice a2 r.2.log.length cap2) r.2.log := fun n hn => ownsRow_up hc hn
  rcases A1 with ⟨g, e1, g1, g2⟩ | e1 <;> rcases A2 with ⟨g', e2, g3, g4⟩ | e2
  · refine ⟨a, cap, a2, cap2, g, g + 1, g', g' + 1, rfl, ⟨own1 g ?_, ?_⟩, ⟨own2 g' ?_, ?_⟩, ⟨g1, g2, g3, g4, by omega, by omega, ?_⟩, hb⟩
    · intro k ek; rw [e1] at ek; simp only [Option.some.injEq] at ek; omega
    · intro k ek; rw [e1] at ek; simp only [Option.some.injEq] at ek; omega
    · intro k ek; rw [e2] at ek; simp only [Option.some.injEq] at ek; omega
    · intro k ek; rw [e2] at ek; simp only [Option.some.injEq] at ek; omega
    · have : g ≠ g' := fun e => hne g e1 (by rw [e2, e])
      omega
  · refine ⟨a, cap, a2, cap2, g, g + 1, W.heap.size, W.heap.size, rfl, ⟨own1 g ?_, ?_⟩, ⟨own2 _ ?_, ?_⟩, ⟨g1, g2, hz, Nat.le_refl _, by omega, by omega, .inl (by omega)⟩, hb⟩
    · intro k ek; rw [e1] at ek; simp only [Option.some.injEq] at ek; omega
    · intro k ek; rw [e1] at ek; simp only [Option.some.injEq] at ek; omega
    · intro k ek; rw [e2] at ek; cases ek
    · intro k ek; rw [e2] at ek; cases ek
  · refine ⟨a, cap, a2, cap2, W.heap.size, W.heap.size, g', g' + 1, rfl, ⟨own1 _ ?_, ?_⟩, ⟨own2 g' ?_, ?_⟩, ⟨hz, Nat.le_refl _, g3, g4, by omega, by omega, .inr (by omega)⟩, hb⟩
    · intro k ek; rw [e1] at ek; cases ek
    · intro k ek; rw [e1] at ek; cases ek
    · intro k ek; rw [e2] at ek; simp only [Option.some.injEq] at ek; omega
    · intro k ek; rw [e2] at ek; simp only [Option.some.injEq] at ek; omega
  · refine ⟨a, cap, a2, cap2, W.heap.size, W.heap.size, W.heap.size, W.heap.size, rfl, ⟨own1 _ ?_, ?_⟩, ⟨own2 _ ?_, ?_⟩, ⟨hz, Nat.le_refl _, hz, Nat.le_refl _, by omega, by omega, .inl (by omega)⟩, hb⟩
    · intro k ek; rw [e1] at ek; cases ek
    · intro k ek; rw [e1] at ek; cases ek
    · intro k ek; rw [e2] at ek; cases ek
    · intro k ek; rw [e2] at ek; cases ek

/-- What the statement leaves that takes it: two boxes and the cycles. -/
def Took3 (V : World) (r : CpuN × BusN) (p q u : Value) (W : World) : Prop :=
  ∃ P Q a cap a2 cap2 lo hi lo2 hi2, p = .pointer (some ⟨P, 0, none⟩) ∧ q = .pointer (some ⟨Q, 0, none⟩) ∧ u = .slice a2 r.2.log.length cap2 ∧
    BoxN W P 28 (cpuCells r.1) ∧ BoxN W Q 30 #[.slice a r.2.mem.length cap] ∧ SegB W lo hi (.slice a r.2.mem.length cap) r.2.mem ∧ SegC W lo2 hi2 (.slice a2 r.2.log.length cap2) r.2.log ∧
    (V.heap.size ≤ P ∧ V.heap.size ≤ Q ∧ P ≠ Q ∧ V.heap.size ≤ lo ∧ hi ≤ W.heap.size ∧ V.heap.size ≤ lo2 ∧ hi2 ≤ W.heap.size ∧ lo ≤ hi ∧ lo2 ≤ hi2 ∧ (hi ≤ lo2 ∨ hi2 ≤ lo) ∧ (P < lo ∨ hi ≤ P) ∧ (P < lo2 ∨ hi2 ≤ P) ∧ (Q < lo ∨ hi ≤ Q) ∧ (Q < lo2 ∨ hi2 ≤ Q)) ∧ Below V.heap.size V W

theorem alw (W : World) (o : Obj) : Below W.heap.size W (W.alloc o) := (Below.refl _ _).alloc (Nat.le_refl _) _

end Go.Proofs.YtblchdmemhhcbaaGreat
