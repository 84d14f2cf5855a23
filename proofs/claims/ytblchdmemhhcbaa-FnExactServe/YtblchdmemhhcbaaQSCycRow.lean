/-
  Rows of cycles: the exact laws' own helpers (eqCyc, eqCycS, markCycS, heldCycS).
-/
import Derived.Test.YtblchdmemhhcbaaQSBus
import Derived.StillTailTactics
namespace Go.Proofs.Ytblchdmemhhcbaa
set_option linter.unusedVariables false
set_option linter.unusedSimpArgs false
open Go.RowKit

/-- A row of cycles that can be read. -/
def RowC (w : World) (a : Option Addr) (L : List CycN) : Prop :=
  0 < L.length → ∃ g o, a = some ⟨g, o, none⟩ ∧ g < w.heap.size ∧ ∀ i (h : i < L.length), w.cell? ⟨g, o + i * 3, none⟩ = some (.int .u16 (L[i].addr : Int)) ∧ w.cell? ⟨g, o + i * 3 + 1, none⟩ = some (.int .u8 (L[i].data : Int)) ∧ w.cell? ⟨g, o + i * 3 + 2, none⟩ = some (.bool L[i].wr)

theorem cyc_at (L : List CycN) : ∀ (i : Nat) (h : i < L.length), (L.flatMap cycCells)[i * 3]? = some (.int .u16 (L[i].addr : Int)) ∧ (L.flatMap cycCells)[i * 3 + 1]? = some (.int .u8 (L[i].data : Int)) ∧ (L.flatMap cycCells)[i * 3 + 2]? = some (.bool L[i].wr) := by
  induction L with
  | nil => intro i h; simp at h
  | cons c r ih =>
    intro i h
    cases i with
    | zero => simp [cycCells]
    | succ i =>
      have e1 : (i + 1) * 3 = i * 3 + 3 := by omega
      have e2 : (i + 1) * 3 + 1 = i * 3 + 1 + 3 := by omega
      have e3 : (i + 1) * 3 + 2 = i * 3 + 2 + 3 := by omega
      obtain ⟨h1, h2, h3⟩ := ih i (by simpa using h)
      rw [List.flatMap_cons, e2, e3, e1]
      refine ⟨?_, ?_, ?_⟩
      all_goals
        rw [List.getElem?_append_right (by simp [cycCells])]
        simp only [cycCells, List.length_cons, List.length_nil, Nat.zero_add, Nat.add_sub_cancel, List.getElem_cons_succ]
        assumption

theorem OwnC.row {w : World} {base : Nat} {a : Option Addr} {n cap : Nat} {L : List CycN} (h : OwnC w base (.slice a n cap) L) : n = L.length ∧ RowC w a L := by
  have h' := h
  obtain ⟨_, h2⟩ := h
  rcases h2 with ⟨h2, hn⟩ | ⟨g, cap', cur, e, hb, hh, hnc, _⟩
  · simp only [Value.slice.injEq] at h2
    refine ⟨by omega, fun h => by omega⟩
  · simp only [Value.slice.injEq] at e
    obtain ⟨rfl, rfl, rfl⟩ := e
    refine ⟨rfl, fun h0 => ⟨g, 0, rfl, (Array.getElem?_eq_some_iff.1 hh).1, fun i hi => ?_⟩⟩
    obtain ⟨c1, c2, c3⟩ := cyc_at L i hi
    simp only [Nat.zero_add]
    exact ⟨(World.ownsRow.cellAt h' (i * 3) (by omega)).trans c1, (World.ownsRow.cellAt h' (i * 3 + 1) (by omega)).trans c2, (World.ownsRow.cellAt h' (i * 3 + 2) (by omega)).trans c3⟩

theorem RowC.below {w w' : World} {a : Option Addr} {L : List CycN} (h : RowC w a L) (hb : Below w.heap.size w w') : RowC w' a L := fun h0 => by
  obtain ⟨g, o, rfl, hg, hc⟩ := h h0
  refine ⟨g, o, rfl, Nat.lt_of_lt_of_le hg hb.size, fun i hi => ?_⟩
  obtain ⟨h1, h2, h3⟩ := hc i hi
  exact ⟨cellKept hb h1 hg, cellKept hb h2 hg, cellKept hb h3 hg⟩

theorem eqCyc_true (x y : Int) (b : Bool) (w : World) :
    Calls Try.prog 30 #[.agg #[.int .u16 x, .int .u8 y, .bool b], .agg #[.int .u16 x, .int .u8 y, .bool b]] w fun e w' => e = .returned (.bool true) ∧ Below w.heap.size w w' := by
  go_enter Try.func30, Try.ntmps30
  go_wp2
  go_ret
  exact ⟨rfl, ((Below.refl _ _).alloc (Nat.le_refl _) _).alloc (by simp) _⟩

set_option maxRecDepth 100000 in
theorem eqCycS_true (a1 a2 : Option Addr) (c1 c2 : Nat) (L : List CycN) (w : World) (hl : L.length ≤ 1048576) (h1 : RowC w a1 L) (h2 : RowC w a2 L) :
    Calls Try.prog 12 #[.slice a1 L.length c1, .slice a2 L.length c2] w fun e w' => e = .returned (.bool true) ∧ Below w.heap.size w w' := by
  have H1 := Lib.hid h1
  have H2 := Lib.hid h2
  clear h1 h2
  go_enter Try.func12, Try.ntmps12
  go_wp2
  go_loopw [5] (fun i wr => ∃ k : Nat, k ≤ L.length ∧ i = .int .i64 k ∧ Below w.heap.size w wr) (fun i _ => L.length - (intOf i).toNat)
  case atStart => exact ⟨0, Nat.zero_le _, rfl, Below.refl _ _⟩
  case round =>
    obtain ⟨k, hk, rfl, hb⟩ := hrel
    by_cases hp : k < L.length
    · obtain ⟨g1, o1, rfl, _, e1⟩ := (H1.out.below hb) (by omega)
      obtain ⟨g2, o2, rfl, _, e2⟩ := (H2.out.below hb) (by omega)
      obtain ⟨f1, f2, f3⟩ := e1 k hp
      obtain ⟨f4, f5, f6⟩ := e2 k hp
      clear e1 e2
      obtain ⟨x, hx⟩ : ∃ x, L[k].addr = x := ⟨_, rfl⟩
      obtain ⟨y, hy⟩ : ∃ x, L[k].data = x := ⟨_, rfl⟩
      obtain ⟨b, hbb⟩ : ∃ x, L[k].wr = x := ⟨_, rfl⟩
      rw [hx] at f1 f4
      rw [hy] at f2 f5
      rw [hbb] at f3 f6
      clear hx hy hbb
      have ik : (0 : Int) ≤ (k : Int) ∧ (k : Int) < (L.length : Int) := by omega
      go_wp2_with fail
      go_still_tail 8, (by kernel_rfl)
      change wpList _ _ _ _ _ wr.drew
      go_wp2_with fail
      refine (eqCyc_true _ _ _ _).mono ?_
      rintro e w1 ⟨rfl, d1⟩
      have b1 := bstep hb.drew d1
      go_wp2
      go_roundw
      case rel => exact ⟨k + 1, by omega, by go_num, b1⟩
      case measure => simp [intOf]; omega
    · go_wp2
      go_ret
      exact ⟨rfl, hb⟩

/-- Marks, from k on. -/
def markC (k : Nat) : CycN := ⟨k % 65536, (k + 1) % 256, (k + 2) % 3 == 0⟩

def marksC : Nat → Nat → List CycN
  | _, 0 => []
  | k, n + 1 => markC k :: marksC (k + 3) n

theorem marksC_len : ∀ (n k : Nat), (marksC k n).length = n
  | 0, _ => rfl
  | n + 1, k => by simp [marksC, marksC_len n]

theorem marksC_at : ∀ (n k i : Nat) (h : i < (marksC k n).length), (marksC k n)[i] = markC (k + 3 * i)
  | 0, k, i, h => by simp [marksC] at h
  | n + 1, k, 0, h => by simp [marksC]
  | n + 1, k, i + 1, h => by
    simp only [marksC, List.getElem_cons_succ]
    rw [marksC_at n (k + 3) i]
    congr 1
    omega

theorem marksC_snoc : ∀ (n k : Nat), marksC k (n + 1) = marksC k n ++ [markC (k + 3 * n)]
  | 0, k => by simp [marksC]
  | n + 1, k => by
    rw [marksC, marksC_snoc n (k + 3), marksC, List.cons_append, show k + 3 + 3 * n = k + 3 * (n + 1) by omega]

set_option maxRecDepth 100000 in
theorem heldC_any (a : Option Addr) (n cap k0 : Nat) (w : World) (hn : n ≤ 1048576) (hk : k0 ≤ 100000000) (h : RowC w a (marksC k0 n)) :
    Calls Try.prog 16 #[.slice a n cap, .int .i64 k0] w fun e w' => e = .returned (.int .i64 (k0 + 3 * n : Nat)) ∧ Below w.heap.size w w' := by
  have H := Lib.hid h
  clear h
  go_enter Try.func16, Try.ntmps16
  go_wp2
  go_loop [1, 5] (fun kk i => ∃ (j : Nat), j ≤ n ∧ i = .int .i64 j ∧ kk = .int .i64 (k0 + 3 * j : Nat)) (fun _ i => n - (intOf i).toNat)
  case atStart => exact ⟨0, Nat.zero_le _, rfl, rfl⟩
  case round =>
    obtain ⟨j, hj, rfl, rfl⟩ := hrel
    by_cases hp : j < n
    · obtain ⟨g, o, rfl, _, hc⟩ := H.out (by rw [marksC_len]; omega)
      obtain ⟨f1, f2, f3⟩ := hc j (by rw [marksC_len]; exact hp)
      rw [marksC_at] at f1 f2 f3
      obtain ⟨K, hK⟩ : ∃ K, k0 + 3 * j = K := ⟨_, rfl⟩
      rw [hK] at f1 f2 f3 ⊢
      have hKb : K ≤ 200000000 := by omega
      have HK := Lib.hid hK
      clear hc hK
      unfold markC at f1 f2 f3
      dsimp only at f1 f2 f3
      have e1 : (((K % 65536 : Nat) : Int)) = IntKind.u16.wrap (K : Int) := by simp [IntKind.wrap, IntKind.bits, IntKind.signed]
      have e2 : ((((K + 1) % 256 : Nat) : Int)) = ((K : Int) + 1) % 256 := by omega
      have e3 : ((K + 2) % 3 == 0) = (((K : Int) + 1 + 1) % 3 == 0) := by
        rw [Bool.eq_iff_iff]
        simp only [beq_iff_eq]
        omega
      rw [e1] at f1
      rw [e2] at f2
      rw [e3] at f3
      clear e1 e2 e3
      go_wp2
      go_round
      case rel => exact ⟨j + 1, by omega, by go_num, by have := HK.out; go_num⟩
      case measure => simp [intOf]; omega
    · obtain rfl : j = n := by omega
      go_wp2
      go_ret
      exact ⟨rfl, Below.refl _ _⟩

theorem flat_len (A : List CycN) : (A.flatMap cycCells).length = A.length * 3 := by
  induction A with
  | nil => rfl
  | cons c r ih => rw [List.flatMap_cons, List.length_append, ih, List.length_cons]; simp [cycCells]; omega

theorem flat_set (A B : List CycN) (c c' : CycN) (n : Nat) (hn : n = A.length) : (((((A ++ c :: B).flatMap cycCells).set (n * 3) (.int .u16 (c'.addr : Int))).set (n * 3 + 1) (.int .u8 (c'.data : Int))).set (n * 3 + 2) (.bool c'.wr)) = (A ++ c' :: B).flatMap cycCells := by
  have hl := flat_len A
  rw [← hn] at hl
  rw [List.flatMap_append, List.flatMap_append, List.flatMap_cons, List.flatMap_cons]
  have st : ∀ (Y : List Value) (i : Nat) (x : Value), (A.flatMap cycCells ++ Y).set (n * 3 + i) x = A.flatMap cycCells ++ Y.set i x := fun Y i x => by
    rw [List.set_append, if_neg (by omega), hl, show n * 3 + i - n * 3 = i by omega]
  have st0 : ∀ (Y : List Value) (x : Value), (A.flatMap cycCells ++ Y).set (n * 3) x = A.flatMap cycCells ++ Y.set 0 x := fun Y x => st Y 0 x
  rw [st0, st, st]
  rfl

theorem markedC_step (L : List CycN) (k0 j : Nat) (h : j < L.length) : ∃ c B, marksC k0 j ++ L.drop j = marksC k0 j ++ c :: B ∧ marksC k0 (j + 1) ++ L.drop (j + 1) = marksC k0 j ++ markC (k0 + 3 * j) :: B := by
  refine ⟨L[j], L.drop (j + 1), ?_, ?_⟩
  · rw [List.drop_eq_getElem_cons h]
  · rw [marksC_snoc, List.append_assoc]; rfl

set_option maxRecDepth 100000 in
theorem markC_any (g n cap k0 : Nat) (base : Nat) (L : List CycN) (w : World) (hn : n = L.length) (hn2 : n ≤ 1048576) (hk : k0 ≤ 100000000) (h : OwnC w base (.slice (some ⟨g, 0, none⟩) n cap) L) :
    Calls Try.prog 14 #[.slice (some ⟨g, 0, none⟩) n cap, .int .i64 k0] w fun e w' => e = .returned (.int .i64 (k0 + 3 * n : Nat)) ∧ OwnC w' base (.slice (some ⟨g, 0, none⟩) n cap) (marksC k0 n) ∧ w.grownBy w' (some g) := by
  subst hn
  have H := Lib.hid h
  clear h
  go_enter Try.func14, Try.ntmps14
  go_wp2
  go_loopw [1, 5] (fun kk i wr => ∃ (j : Nat), j ≤ L.length ∧ i = .int .i64 j ∧ kk = .int .i64 (k0 + 3 * j : Nat) ∧ Hid (wr.ownsRow base 70 3 (.slice (some ⟨g, 0, none⟩) L.length cap) L.length ((marksC k0 j ++ L.drop j).flatMap cycCells) ∧ w.grownBy wr (some g))) (fun _ i _ => L.length - (intOf i).toNat)
  case atStart => exact ⟨0, Nat.zero_le _, rfl, rfl, Lib.hid ⟨by simpa [marksC, OwnC] using H.out, World.grownBy.refl _ _⟩⟩
  case round =>
    obtain ⟨j, hj, rfl, rfl, HO⟩ := hrel
    by_cases hp : j < L.length
    · obtain ⟨hO, hgr⟩ := HO.out
      obtain ⟨c, B, eA, eB⟩ := markedC_step L k0 j hp
      rw [eA] at hO
      have hlen : (marksC k0 j ++ c :: B).length = L.length := by rw [← eA, List.length_append, marksC_len, List.length_drop]; omega
      have hj2 : j < (marksC k0 j ++ c :: B).length := by omega
      have hcell := fun (i : Nat) (hi : i < L.length * 3) => World.ownsRow.cellAt hO i hi
      obtain ⟨k1, k2, k3⟩ := cyc_at (marksC k0 j ++ c :: B) j hj2
      have f1 := (hcell (j * 3) (by omega)).trans k1
      have f2 := (hcell (j * 3 + 1) (by omega)).trans k2
      have f3 := (hcell (j * 3 + 2) (by omega)).trans k3
      have z1 := World.ownsRow.frozenAt hO (j * 3)
      have z2 := World.ownsRow.frozenAt hO (j * 3 + 1)
      have z3 := World.ownsRow.frozenAt hO (j * 3 + 2)
      obtain ⟨K, hK⟩ : ∃ K, k0 + 3 * j = K := ⟨_, rfl⟩
      rw [hK] at eB ⊢
      have s1 := World.ownsRow.stored hO (j * 3) (.int .u16 ((markC K).addr : Int))
      have s2 := World.ownsRow.stored s1.1 (j * 3 + 1) (.int .u8 ((markC K).data : Int))
      have s3 := World.ownsRow.stored s2.1 (j * 3 + 2) (.bool (markC K).wr)
      rw [flat_set _ _ _ _ j (marksC_len j k0).symm, ← eB] at s3
      have HST := Lib.hid (And.intro s3.1 (grownB_trans (grownB_trans (grownB_trans hgr s1.2) s2.2) s3.2))
      have hKb : K ≤ 200000000 := by omega
      have HK := Lib.hid hK
      obtain ⟨u1, hu1⟩ : ∃ u, (marksC k0 j ++ c :: B)[j].addr = u := ⟨_, rfl⟩
      obtain ⟨u2, hu2⟩ : ∃ u, (marksC k0 j ++ c :: B)[j].data = u := ⟨_, rfl⟩
      obtain ⟨u3, hu3⟩ : ∃ u, (marksC k0 j ++ c :: B)[j].wr = u := ⟨_, rfl⟩
      rw [hu1] at f1
      rw [hu2] at f2
      rw [hu3] at f3
      clear hO hgr eA eB hlen hj2 hcell k1 k2 k3 s1 s2 s3 hK hu1 hu2 hu3 HO
      have ik : (0 : Int) ≤ (j : Int) ∧ (j : Int) < (L.length : Int) := by omega
      go_wp2
      go_roundw
      case rel =>
        refine ⟨j + 1, by omega, by go_num, by have := HK.out; go_num, Lib.hid ?_⟩
        have e1 : (((markC K).addr : Nat) : Int) = IntKind.u16.wrap (K : Int) := by unfold markC; simp [IntKind.wrap, IntKind.bits, IntKind.signed]
        have e2 : (((markC K).data : Nat) : Int) = ((K : Int) + 1) % 256 := by unfold markC; dsimp only; omega
        have e3 : (markC K).wr = (((K : Int) + 1 + 1) % 3 == 0) := by
          unfold markC
          rw [Bool.eq_iff_iff]
          simp only [beq_iff_eq]
          omega
        have hh := HST.out
        rw [e1, e2, e3] at hh
        exact hh
      case measure => simp [intOf]; omega
    · obtain rfl : j = L.length := by omega
      obtain ⟨hO, hgr⟩ := HO.out
      have hO2 : OwnC wr base (.slice (some ⟨g, 0, none⟩) L.length cap) (marksC k0 L.length) := by
        unfold OwnC
        rw [marksC_len]
        simpa using hO
      clear hO HO
      go_wp2
      go_ret
      exact ⟨rfl, hO2, hgr⟩

theorem markC_empty (a : Option Addr) (cap k0 : Nat) (w : World) (hk : k0 ≤ 100000000) :
    Calls Try.prog 14 #[.slice a 0 cap, .int .i64 k0] w fun e w' => e = .returned (.int .i64 (k0 : Nat)) ∧ w = w' := by
  go_enter Try.func14, Try.ntmps14
  go_wp2
  go_loopw [1, 5] (fun kk i wr => i = .int .i64 0 ∧ kk = .int .i64 k0 ∧ wr = w) (fun _ _ _ => 0)
  case atStart => exact ⟨rfl, rfl, rfl⟩
  case round =>
    obtain ⟨rfl, rfl, rfl⟩ := hrel
    go_wp2
    go_ret
    exact ⟨rfl, rfl⟩

end Go.Proofs.Ytblchdmemhhcbaa
