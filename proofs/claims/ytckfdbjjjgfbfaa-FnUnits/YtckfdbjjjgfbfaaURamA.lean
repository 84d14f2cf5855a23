/-
  Memories (a struct of one row of bytes): contracts over the law's own helpers for them, and over the model's RamOk, NewRam, Peek, Poke and Fill.
-/
import Derived.Test.YtckfdbjjjgfbfaaUSpan
import Derived.Laws.AppendOwnNone
import Derived.StillTailTactics
import Derived.IntWalk
namespace Go.Proofs.Ytckfdbjjjgfbfaa
set_option linter.unusedVariables false
set_option linter.unusedSimpArgs false
open Go.RowKit

/-- A memory's value. -/
abbrev ramV (v : Value) : Value := .agg #[v]

/-- Whether a memory of so many bytes is right. -/
def ramN (n : Nat) : Bool := decide (n = 256 ∨ n = 512 ∨ n = 1024 ∨ n = 2048 ∨ n = 4096)

theorem ramN_cases {n : Nat} (h : ramN n = true) : n = 256 ∨ n = 512 ∨ n = 1024 ∨ n = 2048 ∨ n = 4096 := of_decide_eq_true h
theorem ramN_pos {n : Nat} (h : ramN n = true) : 256 ≤ n ∧ n ≤ 4096 := by have := ramN_cases h; omega
theorem ramN_no {n : Nat} (h : ramN n = false) : ((n : Int) == 256) = false ∧ ((n : Int) == 512) = false ∧ ((n : Int) == 1024) = false ∧ ((n : Int) == 2048) = false ∧ ((n : Int) == 4096) = false := by
  have := of_decide_eq_false h
  simp only [beq_eq_false_iff_ne]
  omega

theorem ownNewB (w : World) (L : List Nat) (hL : L.length ≤ maxLen) (hb : ∀ i, i < L.length → L.getD i 0 < 256) : OwnB (w.alloc (.cells (L.map u8V).toArray 5)) w.heap.size (.slice (some ⟨w.heap.size, 0, none⟩) L.length L.length) L :=
  ⟨hb, by simp, .inr ⟨w.heap.size, L.length, (L.map u8V).toArray, rfl, Nat.le_refl _, heap_alloc_new w _, Nat.le_refl _, hL, by simp, by simp [List.take_of_length_le]⟩⟩

theorem ramN_tests {n : Nat} (h : ramN n = true) : ((n : Int) == 256) = true ∨ (((n : Int) == 256) = false ∧ ((n : Int) == 512) = true) ∨ (((n : Int) == 256) = false ∧ ((n : Int) == 512) = false ∧ ((n : Int) == 1024) = true) ∨
    (((n : Int) == 256) = false ∧ ((n : Int) == 512) = false ∧ ((n : Int) == 1024) = false ∧ ((n : Int) == 2048) = true) ∨ (((n : Int) == 256) = false ∧ ((n : Int) == 512) = false ∧ ((n : Int) == 1024) = false ∧ ((n : Int) == 2048) = false ∧ ((n : Int) == 4096) = true) := by
  have := ramN_cases h
  simp only [beq_iff_eq, beq_eq_false_iff_ne]
  omega

set_option maxRecDepth 100000 in
theorem specOk_any (a : Option Addr) (n c : Nat) (w : World) :
    Calls Try.prog 25 #[ramV (.slice a n c)] w fun e w' => e = .returned (.bool (ramN n)) ∧ Below w.heap.size w w' := by
  cases h : ramN n with
  | false =>
    obtain ⟨t1, t2, t3, t4, t5⟩ := ramN_no h
    clear h
    go_enter Try.func25, Try.ntmps25
    go_wp2
    go_ret
    exact ⟨rfl, (Below.refl _ _).alloc (Nat.le_refl _) _⟩
  | true =>
    rcases ramN_tests h with t1 | ⟨t1, t2⟩ | ⟨t1, t2, t3⟩ | ⟨t1, t2, t3, t4⟩ | ⟨t1, t2, t3, t4, t5⟩
    all_goals
      clear h
      go_enter Try.func25, Try.ntmps25
      go_wp2
      go_ret
      exact ⟨rfl, (Below.refl _ _).alloc (Nat.le_refl _) _⟩

def ramI (n : Int) : Bool := decide (0 ≤ n) && ramN n.toNat
def newL (n : Int) : List Nat := if ramI n = true then List.replicate n.toNat 0 else []

set_option maxRecDepth 100000 in
theorem specNew_any (n : Int) (w : World) :
    Calls Try.prog 61 #[.int .i64 n] w fun e w' => ∃ v, e = .returned (ramV v) ∧ OwnB w' w.heap.size v (newL n) ∧ Below w.heap.size w w' := by
  cases h : ramI n with
  | false =>
    have hL : newL n = [] := by unfold newL; rw [h]; rfl
    rw [hL]
    have ht : (n == 256) = false ∧ (n == 512) = false ∧ (n == 1024) = false ∧ (n == 2048) = false ∧ (n == 4096) = false := by
      unfold ramI at h
      rw [Bool.and_eq_false_iff] at h
      simp only [beq_eq_false_iff_ne]
      rcases h with h | h
      · have := of_decide_eq_false h; omega
      · have := of_decide_eq_false h; omega
    obtain ⟨t1, t2, t3, t4, t5⟩ := ht
    clear h hL
    go_enter Try.func61, Try.ntmps61
    go_wp2
    exact bodyPost_ret (v := ramV (.slice none 0 0)) (by simp [results, Try.results61, go_sem]) rfl ⟨_, rfl, ownNil _ _, (Below.refl _ _).alloc (Nat.le_refl _) _⟩
  | true =>
    unfold ramI at h
    rw [Bool.and_eq_true] at h
    obtain ⟨d, rfl⟩ := Int.eq_ofNat_of_zero_le (of_decide_eq_true h.1)
    have hr : ramN d = true := by simpa using h.2
    have hL : newL d = List.replicate d 0 := by unfold newL ramI; rw [if_pos (by simp [hr])]; simp
    have hmk := fun w => makeB d (by have := ramN_pos hr; omega) w
    have hb := ramN_pos hr
    rw [hL]
    clear h hL
    rcases ramN_tests hr with t1 | ⟨t1, t2⟩ | ⟨t1, t2, t3⟩ | ⟨t1, t2, t3, t4⟩ | ⟨t1, t2, t3, t4, t5⟩
    all_goals
      clear hr
      go_enter Try.func61, Try.ntmps61
      go_wp2
      refine bodyPost_ret (v := ramV (.slice (some ⟨w.heap.size + 1, 0, none⟩) d d)) (by simp [results, Try.results61, go_sem]) rfl ⟨_, rfl, ?_, ?_⟩
      · have := ownNewB (w.alloc (Obj.cells #[Value.slice (some ⟨w.heap.size + 1, 0, none⟩) d d] 30)) (List.replicate d 0) (by rw [List.length_replicate]; unfold maxLen; omega) (fun i hi => by simp [List.getD, List.getElem?_replicate]; split <;> simp)
        simp only [World.size_alloc, List.length_replicate, List.map_replicate, u8V] at this
        exact OwnB.base this (by omega)
      · exact ((Below.refl _ _).alloc (Nat.le_refl _) _).alloc (by simp) _

end Go.Proofs.Ytckfdbjjjgfbfaa
