/-
  Plain facts on a step, without any Go: its cycles, played over the memory ahead of it, give the memory behind it; its first cycle is at PC.
-/
import Derived.Test.YtckfdbjjjgfbfaaQStepK
namespace Go.Proofs.Ytckfdbjjjgfbfaa
set_option linter.unusedVariables false
set_option linter.unusedSimpArgs false
open Go.RowKit

def put1 (M : List Nat) (x : CycN) : List Nat := if x.wr = true then M.set (x.addr % M.length) x.data else M

def shows (M : List Nat) (x : CycN) : Bool := (put1 M x).getD (x.addr % M.length) 0 == x.data

/-- Cycles played over a memory: what is written is put, and what a cycle shows must be there then. -/
def play (M : List Nat) : List CycN → Option (List Nat)
  | [] => some M
  | x :: r => bif shows M x then play (put1 M x) r else none

theorem play_cons (M : List Nat) (x : CycN) (r : List CycN) : play M (x :: r) = bif shows M x then play (put1 M x) r else none := rfl

theorem play_append : ∀ (A B : List CycN) (M M' : List Nat), play M A = some M' → play M (A ++ B) = play M' B
  | [], B, M, M', h => by
    simp only [play, Option.some.injEq] at h
    rw [h, List.nil_append]
  | x :: r, B, M, M', h => by
    rw [List.cons_append, play_cons]
    rw [play_cons] at h
    cases hh : shows M x with
    | false => rw [hh] at h; cases h
    | true =>
      rw [hh] at h
      exact play_append r B _ M' h

theorem play_one {M : List Nat} {x : CycN} (h : shows M x = true) : play M [x] = some (put1 M x) := by
  unfold play
  rw [h]
  rfl

theorem shows_rd (b : BusN) (a : Nat) : shows b.mem ⟨a % 65536, b.get a, false⟩ = true := by
  unfold shows put1
  dsimp only
  rw [if_neg (by decide)]
  exact beq_self_eq_true _

theorem shows_put (b : BusN) (a d : Nat) (h : 0 < b.mem.length) : shows b.mem ⟨a % 65536, d, true⟩ = true := by
  have hp : a % 65536 % b.mem.length < b.mem.length := Nat.mod_lt _ h
  unfold shows put1
  dsimp only
  rw [if_pos rfl]
  simp [List.getD, hp]

/-- A bus that began with memory L and a first cycle x, and has had n cycles at least. -/
structure Good (L : List Nat) (x : CycN) (n : Nat) (b : BusN) : Prop where
  play : play L b.log = some b.mem
  len : b.mem.length = L.length
  pos : 0 < L.length
  first : ∃ r, b.log = x :: r
  many : n ≤ b.log.length
  adr : ∀ y ∈ b.log, y.addr < 65536

theorem adr_snoc {A : List CycN} {x : CycN} (h : ∀ y ∈ A, y.addr < 65536) (hx : x.addr < 65536) : ∀ y ∈ A ++ [x], y.addr < 65536 := by
  intro y hy
  rcases List.mem_append.1 hy with h1 | h1
  · exact h y h1
  · rw [List.mem_singleton.1 h1]; exact hx

theorem Good.less {L : List Nat} {x : CycN} {n m : Nat} {b : BusN} (h : Good L x n b) (hm : m ≤ n) : Good L x m b := ⟨h.play, h.len, h.pos, h.first, Nat.le_trans hm h.many, h.adr⟩

theorem Good.rd {L : List Nat} {x : CycN} {n : Nat} {b : BusN} (h : Good L x n b) (a : Nat) : Good L x (n + 1) (b.rd a) := by
  refine ⟨?_, h.len, h.pos, ?_, ?_, adr_snoc h.adr (Nat.mod_lt _ (by decide))⟩
  · show Go.Proofs.Ytckfdbjjjgfbfaa.play L (b.log ++ [_]) = some b.mem
    rw [play_append _ _ _ _ h.play, play_one (shows_rd b a)]
    rfl
  · obtain ⟨r, hr⟩ := h.first
    exact ⟨r ++ [⟨a % 65536, b.get a, false⟩], by show b.log ++ [_] = _; rw [hr]; rfl⟩
  · have := h.many
    show n + 1 ≤ (b.log ++ [_]).length
    rw [List.length_append]
    simp
    exact this

theorem Good.put {L : List Nat} {x : CycN} {n : Nat} {b : BusN} (h : Good L x n b) (a d : Nat) : Good L x (n + 1) (b.put a d) := by
  refine ⟨?_, ?_, h.pos, ?_, ?_, adr_snoc h.adr (Nat.mod_lt _ (by decide))⟩
  · show Go.Proofs.Ytckfdbjjjgfbfaa.play L (b.log ++ [_]) = some (b.mem.set (b.spot a) d)
    rw [play_append _ _ _ _ h.play, play_one (shows_put b a d (by rw [h.len]; exact h.pos))]
    rfl
  · show (b.mem.set _ _).length = _
    rw [List.length_set, h.len]
  · obtain ⟨r, hr⟩ := h.first
    exact ⟨r ++ [⟨a % 65536, d, true⟩], by show b.log ++ [_] = _; rw [hr]; rfl⟩
  · have := h.many
    show n + 1 ≤ (b.log ++ [_]).length
    rw [List.length_append]
    simp
    exact this

end Go.Proofs.Ytckfdbjjjgfbfaa
