/-
  What a run shows: its value, and its four rows, each in memory of its own.
-/
import Derived.Test.YtckfdbjjjgfbfaaQRowH
import Derived.Test.YtckfdbjjjgfbfaaQStepRel
namespace Go.Proofs.Ytckfdbjjjgfbfaa
set_option linter.unusedVariables false
set_option linter.unusedSimpArgs false
open Go.RowKit

/-- What a run shows (the starts are any whole numbers). -/
structure ShotI where
  cpu : CpuN
  mem : List Nat
  trace : List CycN
  starts : List Int
  cpus : List CpuN
  jam : Bool

abbrev shotCells (c : CpuN) (m t s p : Value) (j : Bool) : Array Value := #[.int .u8 (c.A : Int), .int .u8 (c.X : Int), .int .u8 (c.Y : Int), .int .u8 (c.S : Int), .int .u16 (c.PC : Int), .bool c.N, .bool c.V, .bool c.D, .bool c.I, .bool c.Z, .bool c.C, m, t, s, p, .bool j]

abbrev shotV (c : CpuN) (m t s p : Value) (j : Bool) : Value := .agg (shotCells c m t s p j)

/-- No row has more elements than a size allows. -/
def ShotI.small (s : ShotI) : Prop := s.mem.length ≤ 1048576 ∧ s.trace.length ≤ 1048576 ∧ s.starts.length ≤ 1048576 ∧ s.cpus.length ≤ 1048576

/-- A shot whose rows can be read. -/
structure ShotRows (w : World) (am ta sa pa : Option Addr) (s : ShotI) : Prop where
  mem : RowB w am s.mem
  trace : RowG encCyc w ta s.trace
  starts : RowG encI w sa s.starts
  cpus : RowG encCpu w pa s.cpus

theorem ShotRows.below {w w' : World} {am ta sa pa : Option Addr} {s : ShotI} (h : ShotRows w am ta sa pa s) (hb : Below w.heap.size w w') : ShotRows w' am ta sa pa s :=
  ⟨h.mem.below hb, h.trace.below hb, h.starts.below hb, h.cpus.below hb⟩

/-- A shot whose rows are a call's own, in blocks from lo up to hi. -/
structure ShotIn (w : World) (lo hi l1 h1 l2 h2 l3 h3 l4 h4 : Nat) (m t s p : Value) (x : ShotI) : Prop where
  mem : SegB w l1 h1 m x.mem
  trace : SegC w l2 h2 t x.trace
  starts : SegG encI w l3 h3 s x.starts
  cpus : SegG encCpu w l4 h4 p x.cpus
  within : (lo ≤ l1 ∧ l1 ≤ h1 ∧ h1 ≤ hi) ∧ (lo ≤ l2 ∧ l2 ≤ h2 ∧ h2 ≤ hi) ∧ (lo ≤ l3 ∧ l3 ≤ h3 ∧ h3 ≤ hi) ∧ (lo ≤ l4 ∧ l4 ≤ h4 ∧ h4 ≤ hi)
  apart : (h1 ≤ l2 ∨ h2 ≤ l1) ∧ (h1 ≤ l3 ∨ h3 ≤ l1) ∧ (h1 ≤ l4 ∨ h4 ≤ l1) ∧ (h2 ≤ l3 ∨ h3 ≤ l2) ∧ (h2 ≤ l4 ∨ h4 ≤ l2) ∧ (h3 ≤ l4 ∨ h4 ≤ l3)

def ShotOwn (w : World) (lo hi : Nat) (m t s p : Value) (x : ShotI) : Prop := ∃ l1 h1 l2 h2 l3 h3 l4 h4, ShotIn w lo hi l1 h1 l2 h2 l3 h3 l4 h4 m t s p x

theorem ShotOwn.below {w w' : World} {lo hi : Nat} {m t s p : Value} {x : ShotI} (h : ShotOwn w lo hi m t s p x) (hb : Below w.heap.size w w') : ShotOwn w' lo hi m t s p x := by
  obtain ⟨l1, h1, l2, h2, l3, h3, l4, h4, h⟩ := h
  exact ⟨l1, h1, l2, h2, l3, h3, l4, h4, h.mem.below hb, h.trace.below hb, h.starts.below hb, h.cpus.below hb, h.within, h.apart⟩

theorem ShotOwn.drew {w : World} {lo hi : Nat} {m t s p : Value} {x : ShotI} (h : ShotOwn w lo hi m t s p x) : ShotOwn w.drew lo hi m t s p x := by
  obtain ⟨l1, h1, l2, h2, l3, h3, l4, h4, h⟩ := h
  exact ⟨l1, h1, l2, h2, l3, h3, l4, h4, h.mem.drew, h.trace.drew, h.starts.drew, h.cpus.drew, h.within, h.apart⟩

theorem ShotOwn.span {w w' : World} {lo hi lo' hi' : Nat} {m t s p : Value} {x : ShotI} (h : ShotOwn w lo hi m t s p x) (hs : Span lo' hi' w w') (hd : hi ≤ lo' ∨ hi' ≤ lo) : ShotOwn w' lo hi m t s p x := by
  obtain ⟨l1, h1, l2, h2, l3, h3, l4, h4, h⟩ := h
  have hw := h.within
  exact ⟨l1, h1, l2, h2, l3, h3, l4, h4, h.mem.span hs (by omega), h.trace.span hs (by omega), h.starts.span hs (by omega), h.cpus.span hs (by omega), h.within, h.apart⟩

theorem SegC.len {w : World} {lo hi : Nat} {v : Value} {L : List CycN} (h : SegC w lo hi v L) : ∃ a cap, v = .slice a L.length cap ∧ L.length ≤ cap := by
  rcases h.1.2 with ⟨rfl, hn⟩ | ⟨g, cap, cur, rfl, _, _, hc, _⟩
  · exact ⟨none, 0, by rw [hn], by omega⟩
  · exact ⟨_, _, rfl, hc⟩

theorem ShotOwn.len {w : World} {lo hi : Nat} {m t s p : Value} {x : ShotI} (h : ShotOwn w lo hi m t s p x) :
    ∃ am cm ta ct sa cs pa cp, m = .slice am x.mem.length cm ∧ t = .slice ta x.trace.length ct ∧ s = .slice sa x.starts.length cs ∧ p = .slice pa x.cpus.length cp ∧ x.mem.length ≤ cm ∧ x.trace.length ≤ ct ∧ x.starts.length ≤ cs ∧ x.cpus.length ≤ cp := by
  obtain ⟨l1, h1, l2, h2, l3, h3, l4, h4, h⟩ := h
  obtain ⟨am, cm, e1, f1⟩ := h.mem.len
  obtain ⟨ta, ct, e2, f2⟩ := h.trace.len
  obtain ⟨sa, cs, e3, f3⟩ := h.starts.len
  obtain ⟨pa, cp, e4, f4⟩ := h.cpus.len
  exact ⟨am, cm, ta, ct, sa, cs, pa, cp, e1, e2, e3, e4, f1, f2, f3, f4⟩

theorem SegC.rowG {w : World} {lo hi : Nat} {a : Option Addr} {n cap : Nat} {L : List CycN} (h : SegC w lo hi (.slice a n cap) L) : RowG encCyc w a L := (OwnG.row (e := encCyc) (show OwnG encCyc w lo (.slice a n cap) L from h.1)).2

theorem ShotOwn.rows {w : World} {lo hi : Nat} {am ta sa pa : Option Addr} {n1 n2 n3 n4 c1 c2 c3 c4 : Nat} {x : ShotI} (h : ShotOwn w lo hi (.slice am n1 c1) (.slice ta n2 c2) (.slice sa n3 c3) (.slice pa n4 c4) x) : ShotRows w am ta sa pa x := by
  obtain ⟨l1, h1, l2, h2, l3, h3, l4, h4, h⟩ := h
  exact ⟨h.mem.row, h.trace.rowG, h.starts.row, h.cpus.row⟩

end Go.Proofs.Ytckfdbjjjgfbfaa
