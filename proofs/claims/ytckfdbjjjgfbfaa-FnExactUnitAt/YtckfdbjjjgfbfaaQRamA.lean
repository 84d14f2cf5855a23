/-
  Memories (a struct of one row of bytes): contracts over the law's own helpers for them, and over the model's RamOk, NewRam, Peek, Poke and Fill.
-/
import Derived.Test.YtckfdbjjjgfbfaaQRowMore
import Derived.Laws.AppendOwnNone
import Derived.StillTailTactics
import Derived.IntWalk
namespace Go.Proofs.Ytckfdbjjjgfbfaa
set_option linter.unusedVariables false
set_option linter.unusedSimpArgs false
open Go.RowKit

/-- A memory's value. -/
abbrev ramV (v : Value) : Value := .agg #[v]

/-- Whether a memory of so many bytes is right. -/
def ramN (n : Nat) : Bool := decide (n = 256 ∨ n = 512 ∨ n = 1024 ∨ n = 2048 ∨ n = 4096)

theorem ramN_cases {n : Nat} (h : ramN n = true) : n = 256 ∨ n = 512 ∨ n = 1024 ∨ n = 2048 ∨ n = 4096 := of_decide_eq_true h
theorem ramN_pos {n : Nat} (h : ramN n = true) : 256 ≤ n ∧ n ≤ 4096 := by have := ramN_cases h; omega
theorem ramN_no {n : Nat} (h : ramN n = false) : ((n : Int) == 256) = false ∧ ((n : Int) == 512) = false ∧ ((n : Int) == 1024) = false ∧ ((n : Int) == 2048) = false ∧ ((n : Int) == 4096) = false := by
  have := of_decide_eq_false h
  simp only [beq_eq_false_iff_ne]
  omega

theorem szB_any (a : Option Addr) (n c : Nat) (l : Int) (hn : n ≤ maxLen) (hl : 0 ≤ l ∧ l ≤ 1048576) (w : World) :
    Calls Try.prog 24 #[.slice a n c, .int .i64 l] w fun e w' => e = .returned (.int .i64 (if l - n < 0 then -1 else l - n)) ∧ w = w' := by
  unfold maxLen at hn
  by_cases h : l - n < 0
  · rw [if_pos h]
    go_enter Try.func24, Try.ntmps24
    go_wp2
    go_ret
    exact ⟨rfl, rfl⟩
  · rw [if_neg h]
    go_enter Try.func24, Try.ntmps24
    go_wp2
    go_ret
    exact ⟨rfl, rfl⟩

theorem szRam_any (a : Option Addr) (n c : Nat) (l : Int) (hn : n ≤ maxLen) (hl : 0 ≤ l ∧ l ≤ 1048576) (w : World) :
    Calls Try.prog 9 #[ramV (.slice a n c), .int .i64 l] w fun e w' => e = .returned (.int .i64 (if l - n < 0 then -1 else l - n)) ∧ Below w.heap.size w w' := by
  by_cases h : l - n < 0
  · have HS := fun w => szB_any a n c l hn hl w
    rw [if_pos h] at HS ⊢
    clear h
    go_enter Try.func9, Try.ntmps9
    go_wp2_with fail
    refine (HS _).mono ?_
    rintro e w' ⟨rfl, rfl⟩
    go_wp2
    go_ret
    exact ⟨rfl, (Below.refl _ _).alloc (Nat.le_refl _) _⟩
  · have HS := fun w => szB_any a n c l hn hl w
    rw [if_neg h] at HS ⊢
    obtain ⟨q, hq⟩ : ∃ q, l - (n : Int) = q := ⟨_, rfl⟩
    rw [hq] at HS h ⊢
    clear hq
    go_enter Try.func9, Try.ntmps9
    go_wp2_with fail
    refine (HS _).mono ?_
    rintro e w' ⟨rfl, rfl⟩
    go_wp2
    go_ret
    exact ⟨rfl, (Below.refl _ _).alloc (Nat.le_refl _) _⟩

theorem ownNewB (w : World) (L : List Nat) (hL : L.length ≤ maxLen) (hb : ∀ i, i < L.length → L.getD i 0 < 256) : OwnB (w.alloc (.cells (L.map u8V).toArray 5)) w.heap.size (.slice (some ⟨w.heap.size, 0, none⟩) L.length L.length) L :=
  ⟨hb, by simp, .inr ⟨w.heap.size, L.length, (L.map u8V).toArray, rfl, Nat.le_refl _, heap_alloc_new w _, Nat.le_refl _, hL, by simp, by simp [List.take_of_length_le]⟩⟩

set_option maxRecDepth 100000 in
theorem toRam_any (a : Option Addr) (cap : Nat) (L : List Nat) (w : World) (hl : L.length ≤ 1048576) (h : RowB w a L) :
    Calls Try.prog 11 #[ramV (.slice a L.length cap)] w fun e w' => ∃ g, e = .returned (ramV (.slice (some ⟨g, 0, none⟩) L.length L.length)) ∧ OwnB w' w.heap.size (.slice (some ⟨g, 0, none⟩) L.length L.length) L ∧ Below w.heap.size w w' := by
  have HL := Lib.hid h
  clear h
  go_enter Try.func11, Try.ntmps11
  go_wp2_with fail
  refine (toB_any a cap L _ hl (HL.out.below (((((Below.refl _ _).alloc (Nat.le_refl _) _).alloc (by simp) _).alloc (by simp; omega) _)))).mono ?_
  rintro e w' ⟨rfl, rfl⟩
  go_wp2
  refine bodyPost_ret (v := ramV (.slice (some ⟨w.heap.size + 1 + 1 + 1, 0, none⟩) L.length L.length)) (by simp [results, Try.results11, go_sem]) rfl ⟨_, rfl, ?_, ?_⟩
  · have := ownNewB (((w.alloc (Obj.cells #[Value.slice a L.length cap] 39)).alloc (Obj.cells #[Value.slice (some ⟨w.heap.size + 1 + 1 + 1, 0, none⟩) L.length L.length] 30)).alloc (Obj.cells #[Value.slice (some ⟨w.heap.size + 1 + 1 + 1, 0, none⟩) L.length L.length] 30)) L (by unfold maxLen; omega) HL.out.1
    simp only [World.size_alloc] at this
    exact OwnB.base this (by omega)
  · exact ((((Below.refl _ _).alloc (Nat.le_refl _) _).alloc (by simp) _).alloc (by simp; omega) _).alloc (by simp; omega) _

theorem ramN_tests {n : Nat} (h : ramN n = true) : ((n : Int) == 256) = true ∨ (((n : Int) == 256) = false ∧ ((n : Int) == 512) = true) ∨ (((n : Int) == 256) = false ∧ ((n : Int) == 512) = false ∧ ((n : Int) == 1024) = true) ∨
    (((n : Int) == 256) = false ∧ ((n : Int) == 512) = false ∧ ((n : Int) == 1024) = false ∧ ((n : Int) == 2048) = true) ∨ (((n : Int) == 256) = false ∧ ((n : Int) == 512) = false ∧ ((n : Int) == 1024) = false ∧ ((n : Int) == 2048) = false ∧ ((n : Int) == 4096) = true) := by
  have := ramN_cases h
  simp only [beq_iff_eq, beq_eq_false_iff_ne]
  omega

set_option maxRecDepth 100000 in
theorem specOk_any (a : Option Addr) (n c : Nat) (w : World) :
    Calls Try.prog 25 #[ramV (.slice a n c)] w fun e w' => e = .returned (.bool (ramN n)) ∧ Below w.heap.size w w' := by
  cases h : ramN n with
  | false =>
    obtain ⟨t1, t2, t3, t4, t5⟩ := ramN_no h
    clear h
    go_enter Try.func25, Try.ntmps25
    go_wp2
    go_ret
    exact ⟨rfl, (Below.refl _ _).alloc (Nat.le_refl _) _⟩
  | true =>
    rcases ramN_tests h with t1 | ⟨t1, t2⟩ | ⟨t1, t2, t3⟩ | ⟨t1, t2, t3, t4⟩ | ⟨t1, t2, t3, t4, t5⟩
    all_goals
      clear h
      go_enter Try.func25, Try.ntmps25
      go_wp2
      go_ret
      exact ⟨rfl, (Below.refl _ _).alloc (Nat.le_refl _) _⟩

def ramI (n : Int) : Bool := decide (0 ≤ n) && ramN n.toNat
def newL (n : Int) : List Nat := if ramI n = true then List.replicate n.toNat 0 else []

end Go.Proofs.Ytckfdbjjjgfbfaa
