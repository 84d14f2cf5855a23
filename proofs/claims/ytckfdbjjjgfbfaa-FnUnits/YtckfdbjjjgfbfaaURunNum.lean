/-
  Chapter 7 in plain numbers: events, a run, the unit of a cycle.
-/
import Derived.Test.YtckfdbjjjgfbfaaUStepK
import Derived.Test.YtckfdbjjjgfbfaaUStepS
import Derived.Test.YtckfdbjjjgfbfaaUBoxPart
namespace Go.Proofs.Ytckfdbjjjgfbfaa
set_option linter.unusedVariables false
set_option linter.unusedSimpArgs false
open Go.RowKit

def put1 (M : List Nat) (x : CycN) : List Nat := if x.wr = true then M.set (x.addr % M.length) x.data else M

def shows (M : List Nat) (x : CycN) : Bool := (put1 M x).getD (x.addr % M.length) 0 == x.data

/-- Cycles played over a memory: what is written is put, and what a cycle shows must be there then. -/
def play (M : List Nat) : List CycN → Option (List Nat)
  | [] => some M
  | x :: r => bif shows M x then play (put1 M x) r else none

theorem play_cons (M : List Nat) (x : CycN) (r : List CycN) : play M (x :: r) = bif shows M x then play (put1 M x) r else none := rfl

theorem play_append : ∀ (A B : List CycN) (M M' : List Nat), play M A = some M' → play M (A ++ B) = play M' B
  | [], B, M, M', h => by
    simp only [play, Option.some.injEq] at h
    rw [h, List.nil_append]
  | x :: r, B, M, M', h => by
    rw [List.cons_append, play_cons]
    rw [play_cons] at h
    cases hh : shows M x with
    | false => rw [hh] at h; cases h
    | true =>
      rw [hh] at h
      exact play_append r B _ M' h

theorem play_one {M : List Nat} {x : CycN} (h : shows M x = true) : play M [x] = some (put1 M x) := by
  unfold play
  rw [h]
  rfl

theorem shows_rd (b : BusN) (a : Nat) : shows b.mem ⟨a % 65536, b.get a, false⟩ = true := by
  unfold shows put1
  dsimp only
  rw [if_neg (by decide)]
  exact beq_self_eq_true _

theorem shows_put (b : BusN) (a d : Nat) (h : 0 < b.mem.length) : shows b.mem ⟨a % 65536, d, true⟩ = true := by
  have hp : a % 65536 % b.mem.length < b.mem.length := Nat.mod_lt _ h
  unfold shows put1
  dsimp only
  rw [if_pos rfl]
  simp [List.getD, hp]

/-- A bus that began with memory L and a first cycle x, and has had n cycles at least. -/
structure Good (L : List Nat) (x : CycN) (n : Nat) (b : BusN) : Prop where
  play : play L b.log = some b.mem
  len : b.mem.length = L.length
  pos : 0 < L.length
  first : ∃ r, b.log = x :: r
  many : n ≤ b.log.length
  adr : ∀ y ∈ b.log, y.addr < 65536

theorem adr_snoc {A : List CycN} {x : CycN} (h : ∀ y ∈ A, y.addr < 65536) (hx : x.addr < 65536) : ∀ y ∈ A ++ [x], y.addr < 65536 := by
  intro y hy
  rcases List.mem_append.1 hy with h1 | h1
  · exact h y h1
  · rw [List.mem_singleton.1 h1]; exact hx

theorem Good.less {L : List Nat} {x : CycN} {n m : Nat} {b : BusN} (h : Good L x n b) (hm : m ≤ n) : Good L x m b := ⟨h.play, h.len, h.pos, h.first, Nat.le_trans hm h.many, h.adr⟩

theorem Good.rd {L : List Nat} {x : CycN} {n : Nat} {b : BusN} (h : Good L x n b) (a : Nat) : Good L x (n + 1) (b.rd a) := by
  refine ⟨?_, h.len, h.pos, ?_, ?_, adr_snoc h.adr (Nat.mod_lt _ (by decide))⟩
  · show Go.Proofs.Ytckfdbjjjgfbfaa.play L (b.log ++ [_]) = some b.mem
    rw [play_append _ _ _ _ h.play, play_one (shows_rd b a)]
    rfl
  · obtain ⟨r, hr⟩ := h.first
    exact ⟨r ++ [⟨a % 65536, b.get a, false⟩], by show b.log ++ [_] = _; rw [hr]; rfl⟩
  · have := h.many
    show n + 1 ≤ (b.log ++ [_]).length
    rw [List.length_append]
    simp
    exact this

theorem Good.put {L : List Nat} {x : CycN} {n : Nat} {b : BusN} (h : Good L x n b) (a d : Nat) : Good L x (n + 1) (b.put a d) := by
  refine ⟨?_, ?_, h.pos, ?_, ?_, adr_snoc h.adr (Nat.mod_lt _ (by decide))⟩
  · show Go.Proofs.Ytckfdbjjjgfbfaa.play L (b.log ++ [_]) = some (b.mem.set (b.spot a) d)
    rw [play_append _ _ _ _ h.play, play_one (shows_put b a d (by rw [h.len]; exact h.pos))]
    rfl
  · show (b.mem.set _ _).length = _
    rw [List.length_set, h.len]
  · obtain ⟨r, hr⟩ := h.first
    exact ⟨r ++ [⟨a % 65536, d, true⟩], by show b.log ++ [_] = _; rw [hr]; rfl⟩
  · have := h.many
    show n + 1 ≤ (b.log ++ [_]).length
    rw [List.length_append]
    simp
    exact this

theorem placeN_good {L : List Nat} {x : CycN} {n : Nat} {b : BusN} (h : Good L x n b) (c : CpuN) (m k : Int) : Good L x (n + 1) (placeN b c m k).2 := by
  unfold placeN baseN
  dsimp only
  repeat' split
  all_goals
    first
    | exact h.rd _
    | exact ((h.rd _).rd _).less (by omega)
    | exact (((h.rd _).rd _).rd _).less (by omega)
    | exact ((((h.rd _).rd _).rd _).rd _).less (by omega)

theorem pushN_good {L : List Nat} {x : CycN} {n : Nat} {b : BusN} (h : Good L x n b) (c : CpuN) (pc : Nat) (brk : Bool) (v : Nat) : Good L x (n + 5) (pushN b c pc brk v).2 := by
  unfold pushN
  exact ((((h.put _ _).put _ _).put _ _).rd _).rd _

theorem branchN_good {L : List Nat} {x : CycN} {n : Nat} {b : BusN} (h : Good L x n b) (c : CpuN) (l : List UInt8) : Good L x (n + 1) (branchN b c l).2 := by
  unfold branchN
  dsimp only
  repeat' split
  all_goals
    first
    | exact h.rd _
    | exact ((h.rd _).rd _).less (by omega)
    | exact (((h.rd _).rd _).rd _).less (by omega)

theorem holdN_good {L : List Nat} {x : CycN} {n : Nat} {b : BusN} (h : Good L x n b) (c : CpuN) (l : List UInt8) : Good L x n (holdN b c l).2 := by
  unfold holdN
  dsimp only
  repeat' split
  all_goals
    first
    | exact (h.put _ _).less (by omega)
    | exact ((h.rd _).rd _).less (by omega)

theorem goN_good {L : List Nat} {x : CycN} {n : Nat} {b : BusN} (h : Good L x n b) (c : CpuN) (l : List UInt8) (m : Int) : Good L x (n + 1) (goN b c l m).2 := by
  unfold goN
  dsimp only
  repeat' split
  all_goals
    first
    | exact ((h.rd _).rd _).less (by omega)
    | exact ((((h.rd _).rd _).rd _).rd _).less (by omega)
    | exact (((((h.rd _).rd _).put _ _).put _ _).rd _).less (by omega)
    | exact (((((h.rd _).rd _).rd _).rd _).rd _).less (by omega)
    | exact (pushN_good (h.rd _) _ _ _ _).less (by omega)
    | exact holdN_good (h.rd _) _ _

theorem dataN_good {L : List Nat} {x : CycN} {n : Nat} {b : BusN} (h : Good L x n b) (c : CpuN) (code : Nat) : Good L x (n + 1) (dataN b c code).2 := by
  have hp := placeN_good h c (opMode code) (opKind code)
  unfold dataN
  dsimp only
  repeat' split
  all_goals
    first
    | exact h.rd _
    | exact (hp.rd _).less (by omega)
    | exact (hp.put _ _).less (by omega)
    | exact (((hp.rd _).put _ _).put _ _).less (by omega)

/-- A step's cycles, played over the memory ahead of it, give the memory behind it; two at least, the first at PC. -/
theorem opN_good {L : List Nat} (hL : 0 < L.length) (c : CpuN) : Good L ⟨c.PC % 65536, (⟨L, []⟩ : BusN).get c.PC, false⟩ 2 (opN ⟨L, []⟩ c).2 := by
  have h1 : Good L ⟨c.PC % 65536, (⟨L, []⟩ : BusN).get c.PC, false⟩ 1 ((⟨L, []⟩ : BusN).rd c.PC) := by
    refine ⟨?_, rfl, hL, ⟨[], rfl⟩, Nat.le_refl _, fun y hy => by rw [show y = ⟨c.PC % 65536, _, false⟩ from List.mem_singleton.1 hy]; exact Nat.mod_lt _ (by decide)⟩
    exact play_one (shows_rd ⟨L, []⟩ c.PC)
  unfold opN
  dsimp only
  repeat' split
  · exact h1.rd _
  · exact branchN_good h1 _ _
  · exact dataN_good h1 _ _
  · exact goN_good h1 _ _ _

end Go.Proofs.Ytckfdbjjjgfbfaa

namespace Go.Proofs.Ytckfdbjjjgfbfaa
set_option linter.unusedVariables false
set_option linter.unusedSimpArgs false
open Go.RowKit

/-- What a run shows. -/
structure ShotN where
  cpu : CpuN
  mem : List Nat
  trace : List CycN
  starts : List Nat
  cpus : List CpuN
  jam : Bool

def askedN (E : List EvN) (k : Nat) (nmi : Bool) : Bool := E.any fun e => e.at' == (k : Int) && e.nmi == nmi

/-- One unit more. -/
def ShotN.on (s : ShotN) (r : CpuN × BusN) : ShotN := ⟨r.1, r.2.mem, s.trace ++ r.2.log, s.starts ++ [s.trace.length], s.cpus ++ [s.cpu], s.jam⟩

/-- Unit k of a run that hasn't jammed. -/
def unitN (E : List EvN) (k : Nat) (s : ShotN) : ShotN :=
  if askedN E k true = true then s.on (servedN s.cpu s.mem true)
  else if (askedN E k false && !s.cpu.I) = true then s.on (servedN s.cpu s.mem false)
  else if jamsN s.mem s.cpu.PC = true then { s with jam := true }
  else s.on (stepN s.cpu s.mem)

/-- n units more, from unit k on. -/
def unitsN (E : List EvN) : Nat → Nat → ShotN → ShotN
  | 0, _, s => s
  | n + 1, k, s => if s.jam = true then s else unitsN E n (k + 1) (unitN E k s)

def beginN (c : CpuN) (L : List Nat) : ShotN := ⟨c, L, [], [], [], false⟩
def runN (c : CpuN) (L : List Nat) (E : List EvN) (n : Nat) : ShotN := unitsN E n 0 (beginN c L)

theorem unitsN_jam (E : List EvN) : ∀ (n k : Nat) (s : ShotN), s.jam = true → unitsN E n k s = s
  | 0, _, _, _ => rfl
  | n + 1, k, s, h => by unfold unitsN; rw [if_pos h]

theorem unitsN_succ (E : List EvN) (n k : Nat) (s : ShotN) : unitsN E (n + 1) k s = if s.jam = true then s else unitsN E n (k + 1) (unitN E k s) := rfl

theorem unitsN_add (E : List EvN) : ∀ (m n k : Nat) (s : ShotN), unitsN E (m + n) k s = unitsN E n (k + m) (unitsN E m k s)
  | 0, n, k, s => by simp [unitsN]
  | m + 1, n, k, s => by
    rw [show m + 1 + n = (m + n) + 1 by omega, unitsN_succ, unitsN_succ]
    by_cases h : s.jam = true
    · rw [if_pos h, if_pos h, unitsN_jam E n _ s h]
    · rw [if_neg h, if_neg h, unitsN_add E m n (k + 1) (unitN E k s)]
      rw [show k + 1 + m = k + (m + 1) by omega]

/-- A shot behind what was shown before. -/
def ShotN.behind (s : ShotN) (t : List CycN) (a : List Nat) (p : List CpuN) : ShotN := ⟨s.cpu, s.mem, t ++ s.trace, a ++ s.starts.map (t.length + ·), p ++ s.cpus, s.jam⟩

end Go.Proofs.Ytckfdbjjjgfbfaa
