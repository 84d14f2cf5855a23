/-
  Contracts over the program: what DrawNameOf, DrawShowOp, DrawListing and DrawReadOp tell: some byte, some bytes or a text, and some address.
-/
import Derived.Test.YtffhjoldiicgdaaDrawAsm
import Derived.Deep.RegionHeld3
namespace Go.Proofs.Ytffhjoldiicgdaa
set_option linter.unusedVariables false
set_option linter.unusedSimpArgs false
open Go.RowKit

/-- Bytes and an address that are drawn: whichever they are. -/
def DrewRow (w : World) (e : Ending) (w' : World) : Prop :=
  ∃ (a : Option Addr) (c : Nat) (L : List Nat) (pc : Nat), L.length ≤ c ∧ L.length ≤ 1048576 ∧ pc < 65536 ∧ e = .returned (.tuple #[.slice a L.length c, .int .u16 pc]) ∧ RowB w' a L ∧ Below w.heap.size w w'

/-- A text and an address that are drawn. -/
def DrewText (w : World) (e : Ending) (w' : World) : Prop :=
  ∃ (t : ByteArray) (pc : Nat), t.size ≤ 1048576 ∧ pc < 65536 ∧ e = .returned (.tuple #[.string t, .int .u16 pc]) ∧ Below w.heap.size w w'

def DrewU8 (w : World) (e : Ending) (w' : World) : Prop := ∃ x : Nat, x < 256 ∧ e = .returned (.int .u8 x) ∧ Below w.heap.size w w'

theorem OwnB.cap {w : World} {base : Nat} {a : Option Addr} {n c : Nat} {L : List Nat} (h : OwnB w base (.slice a n c) L) : n ≤ c := by
  rcases h.2.2 with ⟨hv, _⟩ | ⟨g, cp, cur, hv, _, _, h1, _⟩
  · simp only [Value.slice.injEq] at hv; omega
  · simp only [Value.slice.injEq] at hv; omega

theorem RowB.take {w : World} {a : Option Addr} {L : List Nat} (h : RowB w a L) (k : Nat) (hk : k ≤ L.length) : RowB w a (L.take k) := by
  have hl : (L.take k).length = k := by simp; omega
  have hg : ∀ i, i < k → (L.take k).getD i 0 = L.getD i 0 := fun i hi => by simp [List.getD, List.getElem?_take, hi]
  refine ⟨fun i hi => ?_, fun h0 => ?_⟩
  · rw [hl] at hi; rw [hg i hi]; exact h.1 i (by omega)
  · rw [hl] at h0
    obtain ⟨g, o, rfl, hgl, hc⟩ := h.2 (by omega)
    refine ⟨g, o, rfl, hgl, fun i hi => ?_⟩
    rw [hl] at hi; rw [hg i hi]; exact hc i (by omega)

theorem RowB.grown {w w' : World} {a : Option Addr} {L : List Nat} {base B : Nat} {c : Nat} (h : OwnB w base (.slice a L.length c) L) (hg : w.grownBy w' (some B)) (hB : B < base) : RowB w' a L := (h.grown hg hB).row.2

theorem startBelow {n₀ : Nat} {w w1 w' : World} {B : Nat} {o : Obj} (e1 : w.alloc o = w1) (hB : B = w.heap.size) (hg : w1.grownBy w' (some B)) : Below w.heap.size w w' := by
  subst e1 hB
  exact ((Below.refl _ _).alloc (Nat.le_refl _) _).trans (grown_below hg (Nat.le_refl _) (by simp))

set_option maxRecDepth 100000 in
theorem drawShow_any (n₀ : Nat) (a : Option Addr) (len cap : Nat) (z : List Int) (w : World) (hc : CodeRow n₀ w a len z) (hn : n₀ ≤ w.heap.size) :
    Calls Try.prog 10 #[.slice a len cap] w (DrewRow w) := by
  have hst := hc.startS (cap := cap) hn
  go_enter Try.func10, Try.ntmps10
  go_wp2_with fail
  refine (new_any n₀ a len cap z w hc).mono ?_
  rintro e w1 ⟨rfl, rfl⟩
  go_wp2_with fail
  refine (bytes_drawn n₀ _ a len cap z _ 1 (by omega) _ hst).mono ?_
  rintro e w2 ⟨v, L, s2, hL, rfl, hO, hd2, hg2⟩
  obtain ⟨a1, c1, rfl⟩ := hO.len
  have hcap := hO.cap
  have hbase : w.heap.size < (w.alloc (.cells #[.slice a len cap, .int .i64 0, .int .i64 (startH z len)] 71)).heap.size := by simp
  go_wp2_with fail
  refine (once_drawn n₀ _ a len cap z s2 6 _ hd2).mono ?_
  rintro e w3 ⟨rfl, hd3, hg3⟩
  have hO3 := hO.grown hg3 hbase
  have hG3 := grown_trans hg2 hg3
  clear hO hd2 hg2 hg3
  cases hq : (belowV z len s2 6 == 0) with
  | false =>
    go_wp2_with fail
    refine (pc_drawn n₀ _ a len cap z _ _ hd3).mono ?_
    rintro e w4 ⟨pc, s4, hpc, rfl, hd4, hg4⟩
    have hO4 := hO3.grown hg4 hbase
    have hb4 : Below w.heap.size w w4 := ((Below.refl _ _).alloc (Nat.le_refl _) _).trans (grown_below (grown_trans hG3 hg4) (Nat.le_refl _) (by simp))
    go_wp2
    go_ret2
    exact ⟨a1, c1, L, pc, hcap, by omega, hpc, rfl, hO4.row.2, hb4⟩
  | true =>
    obtain ⟨q0, q1⟩ := belowV_bound z len (belowS len s2 6) ((L.length : Int) + 1) (by omega)
    obtain ⟨k, hk⟩ := Int.eq_ofNat_of_zero_le q0
    rw [hk] at q1
    have HK := Lib.hid hk
    clear hk q0
    have hkL : k ≤ L.length := by omega
    have hkc : (0 : Int) ≤ (k : Int) ∧ (k : Int) ≤ (c1 : Int) := by omega
    go_wp2_with fail
    refine (below_drawn n₀ _ a len cap z _ ((L.length : Int) + 1) _ hd3).mono ?_
    rintro e w4 ⟨rfl, hd4, hg4⟩
    rw [HK.out]
    have hO4 := hO3.grown hg4 hbase
    have hG4 := grown_trans hG3 hg4
    go_wp2_with fail
    refine (pc_drawn n₀ _ a len cap z _ _ hd4).mono ?_
    rintro e w5 ⟨pc, s5, hpc, rfl, hd5, hg5⟩
    have hO5 := hO4.grown hg5 hbase
    have hb5 : Below w.heap.size w w5 := ((Below.refl _ _).alloc (Nat.le_refl _) _).trans (grown_below (grown_trans hG4 hg5) (Nat.le_refl _) (by simp))
    go_wp2
    go_ret2
    have hl : (L.take k).length = k := by simp; omega
    exact ⟨a1, c1, L.take k, pc, by omega, by omega, hpc, by rw [hl]; rfl, hO5.row.2.take k hkL, hb5⟩

set_option maxRecDepth 100000 in
theorem drawList_any (n₀ : Nat) (a : Option Addr) (len cap : Nat) (z : List Int) (w : World) (hc : CodeRow n₀ w a len z) (hn : n₀ ≤ w.heap.size) :
    Calls Try.prog 16 #[.slice a len cap] w (DrewRow w) := by
  have hst := hc.startS (cap := cap) hn
  obtain ⟨q0, q1⟩ := belowV_bound z len (0, startH z len) 8 (by omega)
  obtain ⟨m, hm⟩ := Int.eq_ofNat_of_zero_le q0
  rw [hm] at q1
  have HM := Lib.hid hm
  clear hm q0
  go_enter Try.func16, Try.ntmps16
  go_wp2_with fail
  refine (new_any n₀ a len cap z w hc).mono ?_
  rintro e w1 ⟨rfl, rfl⟩
  go_wp2_with fail
  refine (below_drawn n₀ _ a len cap z _ 8 _ hst).mono ?_
  rintro e w1 ⟨rfl, hd1, hg1⟩
  rw [HM.out]
  have hlt1 := hd1.lt
  go_wp2_with fail
  refine (bytes_drawn n₀ _ a len cap z _ m (by omega) _ hd1).mono ?_
  rintro e w2 ⟨v, L, s2, hL, rfl, hO, hd2, hg2⟩
  obtain ⟨a1, c1, rfl⟩ := hO.len
  have hcap := hO.cap
  have hG2 := grown_trans hg1 hg2
  go_wp2_with fail
  refine (once_drawn n₀ _ a len cap z s2 20 _ hd2).mono ?_
  rintro e w3 ⟨rfl, hd3, hg3⟩
  have hO3 := hO.grown hg3 hlt1
  have hG3 := grown_trans hG2 hg3
  clear hO hd2 hg2 hg3 hG2
  cases hq : (belowV z len s2 20 == 0) with
  | false =>
    go_wp2_with fail
    refine (pc_drawn n₀ _ a len cap z _ _ hd3).mono ?_
    rintro e w4 ⟨pc, s4, hpc, rfl, hd4, hg4⟩
    have hO4 := hO3.grown hg4 hlt1
    have hb4 : Below w.heap.size w w4 := ((Below.refl _ _).alloc (Nat.le_refl _) _).trans (grown_below (grown_trans hG3 hg4) (Nat.le_refl _) (by simp))
    go_wp2
    go_ret2
    exact ⟨a1, c1, L, pc, hcap, by omega, hpc, rfl, hO4.row.2, hb4⟩
  | true =>
    obtain ⟨q0, q1⟩ := belowV_bound z len (belowS len s2 20) 3 (by omega)
    obtain ⟨k, hk⟩ := Int.eq_ofNat_of_zero_le q0
    rw [hk] at q1
    have HK := Lib.hid hk
    clear hk q0
    have hmk := fun w => makeB (1023 + k) (by omega) w
    have hmk2 : ∀ w : World, (Instr.makeSlice 22 (.int .i64 (1023 + (k : Int))) (.int .i64 (1023 + (k : Int)))).run Try.prog w = .ok (.slice (some ⟨w.heap.size, 0, none⟩) (1023 + k) (1023 + k)) (w.alloc (.cells (List.replicate (1023 + k) (Value.int .u8 0)).toArray 5)) := fun w => by simpa using hmk w
    clear hmk
    go_wp2_with fail
    refine (below_drawn n₀ _ a len cap z _ 3 _ hd3).mono ?_
    rintro e w4 ⟨rfl, hd4, hg4⟩
    rw [HK.out]
    have hG4 := grown_trans hG3 hg4
    have hd4a := hd4.alloc (.cells (List.replicate (1023 + k) (Value.int .u8 0)).toArray 5)
    go_wp2_with fail
    refine (pc_drawn n₀ _ a len cap z _ _ hd4a).mono ?_
    rintro e w5 ⟨pc, s5, hpc, rfl, hd5, hg5⟩
    have hb5 : Below w.heap.size w w5 := ((Below.refl _ _).alloc (Nat.le_refl _) _).trans (grown_below (grown_trans (grown_trans hG4 (World.grownBy_alloc w4 _ (some w.heap.size))) hg5) (Nat.le_refl _) (by simp))
    have hrow : RowB w5 (some ⟨w4.heap.size, 0, none⟩) (List.replicate (1023 + k) 0) := by
      have hl4 := hd4.lt
      refine ⟨fun i hi => by simp at hi; simp [List.getD, hi], fun _ => ⟨w4.heap.size, 0, rfl, by have := hg5.size; simp at this; omega, fun i hi => ?_⟩⟩
      simp at hi
      rw [World.cell?_of_block (hg5.block w4.heap.size (by simp) (fun e => by simp at e; omega)), Nat.zero_add, World.cell?_alloc_at _ _ _ _ rfl]
      simp [List.getD, hi, u8V]
    go_wp2
    go_ret2
    exact ⟨some ⟨w4.heap.size, 0, none⟩, 1023 + k, List.replicate (1023 + k) 0, pc, by simp, by simp; omega, hpc, by simp, hrow, hb5⟩

end Go.Proofs.Ytffhjoldiicgdaa
