/-
  The exact laws of memories, walked over any program whose functions keep these contracts.
-/
import Derived.Test.YtblchdmemhhcbaaRamSeg
import Derived.Deep.RegionHeld3
namespace Go.Proofs.Ytblchdmemhhcbaa
set_option linter.unusedVariables false
set_option linter.unusedSimpArgs false
open Go.RowKit

def ImplRamOk : Prop := ∀ (a : Option Addr) (n c : Nat) (w : World), n ≤ 1048576 → Calls Try.prog 35 #[ramV (.slice a n c)] w fun e w' => e = .returned (.bool (ramN n)) ∧ Below w.heap.size w w'

def ImplNewRam : Prop := ∀ (n : Int) (w : World), (Lit.int .i64 n).wf = true → Calls Try.prog 54 #[.int .i64 n] w fun e w' => ∃ v, e = .returned (ramV v) ∧ OwnB w' w.heap.size v (newL n) ∧ Below w.heap.size w w'

def ImplPeek : Prop := ∀ (a : Option Addr) (c addr : Nat) (L : List Nat) (w : World), addr < 65536 → L.length ≤ 1048576 → L.length ≤ c → RowB w a L → Calls Try.prog 37 #[ramV (.slice a L.length c), .int .u16 addr] w fun e w' => e = .returned (.int .u8 (peekL L addr)) ∧ Below w.heap.size w w'

def ImplFill : Prop := ∀ (a : Option Addr) (c addr : Nat) (L : List Nat) (ax : Option Addr) (cx : Nat) (X : List Nat) (w : World), addr < 65536 → L.length ≤ 1048576 → L.length ≤ c → X.length ≤ 1048576 → X.length ≤ cx → RowB w a L → RowB w ax X → Calls Try.prog 42 #[ramV (.slice a L.length c), .int .u16 addr, .slice ax X.length cx] w fun e w' => ∃ v, e = .returned (ramV v) ∧ OwnB w' w.heap.size v (fillL L addr X) ∧ Below w.heap.size w w'

/-- Two boxes of one cell, as they stood behind a call. -/
theorem two_keep {w w1 : World} {B C : Nat} {u v : Value} (hb : Below w.heap.size w w1) (h : w.cell? ⟨B, 0, none⟩ = some u ∧ w.cell? ⟨C, 0, none⟩ = some v ∧ B < w.heap.size ∧ C < w.heap.size) : w1.cell? ⟨B, 0, none⟩ = some u ∧ w1.cell? ⟨C, 0, none⟩ = some v ∧ B < w1.heap.size ∧ C < w1.heap.size :=
  ⟨cellKept hb h.1 h.2.2.1, cellKept hb h.2.1 h.2.2.2, Nat.lt_of_lt_of_le h.2.2.1 hb.size, Nat.lt_of_lt_of_le h.2.2.2 hb.size⟩

theorem pokeL_small {L : List Nat} {addr b : Nat} (h : L.length ≤ 1048576) : (pokeL L addr b).length ≤ 1048576 := by
  unfold pokeL; split
  · rw [List.length_set]; exact h
  · simp

theorem fillL_small {L : List Nat} {addr : Nat} {X : List Nat} (h : L.length ≤ 1048576) : (fillL L addr X).length ≤ 1048576 := by
  unfold fillL; split
  · rw [fillAt_len]; exact h
  · simp

theorem newL_small (n : Int) : (newL n).length ≤ 1048576 := by
  unfold newL; split
  · rename_i h
    unfold ramI at h
    rw [Bool.and_eq_true] at h
    have := ramN_pos h.2
    rw [List.length_replicate]; omega
  · simp

end Go.Proofs.Ytblchdmemhhcbaa
