/-
  Parts of a struct's box: loads and stores at an offset, as facts that a walk is handed; the world behind a store is a name.
-/
import Derived.Test.YtckfdbjjjgfbfaaUAluNum
import Derived.Test.YtckfdbjjjgfbfaaURowG
import Derived.Test.YtckfdbjjjgfbfaaURegMore
import Derived.Test.YtckfdbjjjgfbfaaUSpan
import Derived.Test.YtckfdbjjjgfbfaaRows
import Derived.WalkKit
import Derived.ProofKit
import Derived.OpenShut
import Derived.Deep.Slices
import Derived.WalkSmall
import Derived.Deep.MidRow
namespace Go.Proofs.Ytckfdbjjjgfbfaa
set_option linter.unusedVariables false
set_option linter.unusedSimpArgs false

/-- An event: ahead of which unit, and whether it is an Nmi. -/
structure EvN where
  at' : Int
  nmi : Bool

end Go.Proofs.Ytckfdbjjjgfbfaa

namespace Go.Proofs.Ytckfdbjjjgfbfaa
set_option linter.unusedVariables false
set_option linter.unusedSimpArgs false
open Go.RowKit

def ev0 : EvN := ⟨0, false⟩
def cyc0 : CycN := ⟨0, 0, false⟩

def cpuList (c : CpuN) : List Value := [.int .u8 (c.A : Int), .int .u8 (c.X : Int), .int .u8 (c.Y : Int), .int .u8 (c.S : Int), .int .u16 (c.PC : Int), .bool c.N, .bool c.V, .bool c.D, .bool c.I, .bool c.Z, .bool c.C]

def encCpu : Enc CpuN := ⟨28, 11, cpuList, fun _ => rfl⟩

def encCyc : Enc CycN := ⟨105, 3, cycCells, fun _ => rfl⟩

def encEv : Enc EvN := ⟨98, 2, fun e => [.int .i64 e.at', .bool e.nmi], fun _ => rfl⟩

theorem rowInt_at {w : World} {a : Option Addr} {L : List Int} (h : RowG encI w a L) (i : Nat) (hi : i < L.length) :
    ∃ g o, a = some ⟨g, o, none⟩ ∧ g < w.heap.size ∧ w.cell? ⟨g, o + i, none⟩ = some (.int .i64 L[i]) := by
  obtain ⟨g, o, rfl, hg, hc⟩ := h (by omega)
  exact ⟨g, o, rfl, hg, by simpa [encI] using hc i hi 0 (by decide)⟩

theorem rowEvent_at {w : World} {a : Option Addr} {L : List EvN} (h : RowG encEv w a L) (i : Nat) (hi : i < L.length) :
    ∃ g o, a = some ⟨g, o, none⟩ ∧ g < w.heap.size ∧ w.cell? ⟨g, o + i * 2, none⟩ = some (.int .i64 L[i].at') ∧ w.cell? ⟨g, o + i * 2 + 1, none⟩ = some (.bool L[i].nmi) := by
  obtain ⟨g, o, rfl, hg, hc⟩ := h (by omega)
  exact ⟨g, o, rfl, hg, hc i hi 0 (by decide), hc i hi 1 (by decide)⟩

theorem infoEventG : (Try.prog.info? 98).map (fun i => (i.zero, i.size, i.bytes)) = some (some (.agg #[.int .i64 0, .bool false]), 2, 16) := by kernel_rfl

end Go.Proofs.Ytckfdbjjjgfbfaa

namespace Go.Proofs.Ytckfdbjjjgfbfaa
set_option linter.unusedVariables false
set_option linter.unusedSimpArgs false
open Go.RowKit

/-- What a run shows (the starts are any whole numbers). -/
structure ShotI where
  cpu : CpuN
  mem : List Nat
  trace : List CycN
  starts : List Int
  cpus : List CpuN
  jam : Bool

abbrev shotCells (c : CpuN) (m t s p : Value) (j : Bool) : Array Value := #[.int .u8 (c.A : Int), .int .u8 (c.X : Int), .int .u8 (c.Y : Int), .int .u8 (c.S : Int), .int .u16 (c.PC : Int), .bool c.N, .bool c.V, .bool c.D, .bool c.I, .bool c.Z, .bool c.C, m, t, s, p, .bool j]

abbrev shotV (c : CpuN) (m t s p : Value) (j : Bool) : Value := .agg (shotCells c m t s p j)

/-- A shot whose rows can be read. -/
structure ShotRows (w : World) (am ta sa pa : Option Addr) (s : ShotI) : Prop where
  mem : RowB w am s.mem
  trace : RowG encCyc w ta s.trace
  starts : RowG encI w sa s.starts
  cpus : RowG encCpu w pa s.cpus

theorem ShotRows.below {w w' : World} {am ta sa pa : Option Addr} {s : ShotI} (h : ShotRows w am ta sa pa s) (hb : Below w.heap.size w w') : ShotRows w' am ta sa pa s :=
  ⟨h.mem.below hb, h.trace.below hb, h.starts.below hb, h.cpus.below hb⟩

/-- A shot whose rows are a call's own, in blocks from lo up to hi. -/
structure ShotIn (w : World) (lo hi l1 h1 l2 h2 l3 h3 l4 h4 : Nat) (m t s p : Value) (x : ShotI) : Prop where
  mem : SegB w l1 h1 m x.mem
  trace : SegC w l2 h2 t x.trace
  starts : SegG encI w l3 h3 s x.starts
  cpus : SegG encCpu w l4 h4 p x.cpus
  within : (lo ≤ l1 ∧ l1 ≤ h1 ∧ h1 ≤ hi) ∧ (lo ≤ l2 ∧ l2 ≤ h2 ∧ h2 ≤ hi) ∧ (lo ≤ l3 ∧ l3 ≤ h3 ∧ h3 ≤ hi) ∧ (lo ≤ l4 ∧ l4 ≤ h4 ∧ h4 ≤ hi)
  apart : (h1 ≤ l2 ∨ h2 ≤ l1) ∧ (h1 ≤ l3 ∨ h3 ≤ l1) ∧ (h1 ≤ l4 ∨ h4 ≤ l1) ∧ (h2 ≤ l3 ∨ h3 ≤ l2) ∧ (h2 ≤ l4 ∨ h4 ≤ l2) ∧ (h3 ≤ l4 ∨ h4 ≤ l3)

def ShotOwn (w : World) (lo hi : Nat) (m t s p : Value) (x : ShotI) : Prop := ∃ l1 h1 l2 h2 l3 h3 l4 h4, ShotIn w lo hi l1 h1 l2 h2 l3 h3 l4 h4 m t s p x

theorem ShotOwn.below {w w' : World} {lo hi : Nat} {m t s p : Value} {x : ShotI} (h : ShotOwn w lo hi m t s p x) (hb : Below w.heap.size w w') : ShotOwn w' lo hi m t s p x := by
  obtain ⟨l1, h1, l2, h2, l3, h3, l4, h4, h⟩ := h
  exact ⟨l1, h1, l2, h2, l3, h3, l4, h4, h.mem.below hb, h.trace.below hb, h.starts.below hb, h.cpus.below hb, h.within, h.apart⟩

theorem ShotOwn.drew {w : World} {lo hi : Nat} {m t s p : Value} {x : ShotI} (h : ShotOwn w lo hi m t s p x) : ShotOwn w.drew lo hi m t s p x := by
  obtain ⟨l1, h1, l2, h2, l3, h3, l4, h4, h⟩ := h
  exact ⟨l1, h1, l2, h2, l3, h3, l4, h4, h.mem.drew, h.trace.drew, h.starts.drew, h.cpus.drew, h.within, h.apart⟩

theorem ShotOwn.span {w w' : World} {lo hi lo' hi' : Nat} {m t s p : Value} {x : ShotI} (h : ShotOwn w lo hi m t s p x) (hs : Span lo' hi' w w') (hd : hi ≤ lo' ∨ hi' ≤ lo) : ShotOwn w' lo hi m t s p x := by
  obtain ⟨l1, h1, l2, h2, l3, h3, l4, h4, h⟩ := h
  have hw := h.within
  exact ⟨l1, h1, l2, h2, l3, h3, l4, h4, h.mem.span hs (by omega), h.trace.span hs (by omega), h.starts.span hs (by omega), h.cpus.span hs (by omega), h.within, h.apart⟩

theorem SegC.len {w : World} {lo hi : Nat} {v : Value} {L : List CycN} (h : SegC w lo hi v L) : ∃ a cap, v = .slice a L.length cap ∧ L.length ≤ cap := by
  rcases h.1.2 with ⟨rfl, hn⟩ | ⟨g, cap, cur, rfl, _, _, hc, _⟩
  · exact ⟨none, 0, by rw [hn], by omega⟩
  · exact ⟨_, _, rfl, hc⟩

theorem ShotOwn.len {w : World} {lo hi : Nat} {m t s p : Value} {x : ShotI} (h : ShotOwn w lo hi m t s p x) :
    ∃ am cm ta ct sa cs pa cp, m = .slice am x.mem.length cm ∧ t = .slice ta x.trace.length ct ∧ s = .slice sa x.starts.length cs ∧ p = .slice pa x.cpus.length cp ∧ x.mem.length ≤ cm ∧ x.trace.length ≤ ct ∧ x.starts.length ≤ cs ∧ x.cpus.length ≤ cp := by
  obtain ⟨l1, h1, l2, h2, l3, h3, l4, h4, h⟩ := h
  obtain ⟨am, cm, e1, f1⟩ := h.mem.len
  obtain ⟨ta, ct, e2, f2⟩ := h.trace.len
  obtain ⟨sa, cs, e3, f3⟩ := h.starts.len
  obtain ⟨pa, cp, e4, f4⟩ := h.cpus.len
  exact ⟨am, cm, ta, ct, sa, cs, pa, cp, e1, e2, e3, e4, f1, f2, f3, f4⟩

theorem SegC.rowG {w : World} {lo hi : Nat} {a : Option Addr} {n cap : Nat} {L : List CycN} (h : SegC w lo hi (.slice a n cap) L) : RowG encCyc w a L := (OwnG.row (e := encCyc) (show OwnG encCyc w lo (.slice a n cap) L from h.1)).2

theorem ShotOwn.rows {w : World} {lo hi : Nat} {am ta sa pa : Option Addr} {n1 n2 n3 n4 c1 c2 c3 c4 : Nat} {x : ShotI} (h : ShotOwn w lo hi (.slice am n1 c1) (.slice ta n2 c2) (.slice sa n3 c3) (.slice pa n4 c4) x) : ShotRows w am ta sa pa x := by
  obtain ⟨l1, h1, l2, h2, l3, h3, l4, h4, h⟩ := h
  exact ⟨h.mem.row, h.trace.rowG, h.starts.row, h.cpus.row⟩

end Go.Proofs.Ytckfdbjjjgfbfaa

namespace Go.Proofs.Ytckfdbjjjgfbfaa
set_option linter.unusedVariables false
set_option linter.unusedSimpArgs false
open Go.RowKit

section
variable {P : Program} {ops : Array Oper} {rest : List Oper} {o : Oper} {a : Act} {w w' : World} {Q : Exit → Act → World → Prop} {t : TypeId} {x y : Operand} {p v : Value}

theorem wpList_load_run (hr : (Instr.loadAt t p).run P w = .ok v w) (hgd : o.guard = none) (hop : o.op = .load t x) (hx : a.eval x = p) (h : wpList P ops Q rest (a.put o.dst v) w) : wpList P ops Q (o :: rest) a w :=
  wpList_plain hgd fun K hK => by
    unfold Oper.wp execOp
    simp only [hop, hx, Sem.run_bind, hr, Result.andThen_ok, Sem.run_pure, Oper.upon_value]
    exact hK _ _ h

theorem wpList_store_run (hr : (Instr.storeAt t p v).run P w = .ok () w') (hgd : o.guard = none) (hop : o.op = .store t x y) (hx : a.eval x = p) (hy : a.eval y = v) (hd : o.dst = none) (h : wpList P ops Q rest a w') : wpList P ops Q (o :: rest) a w :=
  wpList_plain hgd fun K hK => by
    unfold Oper.wp execOp
    simp only [hop, hx, hy, Sem.run_bind, hr, Result.andThen_ok, Sem.run_pure, Oper.upon_skip, hd]
    exact hK _ _ h

/-- The same, for a walk that tries many such facts: what doesn't fit is seen at once. -/
theorem wpList_load_fit (hr : (Instr.loadAt t p).run P w = .ok v w) (ho : o.guard = none ∧ ∃ x, o.op = .load t x ∧ a.eval x = p) (h : wpList P ops Q rest (a.put o.dst v) w) : wpList P ops Q (o :: rest) a w :=
  let ⟨hg, _, hop, hx⟩ := ho; wpList_load_run hr hg hop hx h

theorem wpList_store_fit (hr : (Instr.storeAt t p v).run P w = .ok () w') (ho : o.guard = none ∧ o.dst = none ∧ ∃ x y, o.op = .store t x y ∧ a.eval x = p ∧ a.eval y = v) (h : wpList P ops Q rest a w') : wpList P ops Q (o :: rest) a w :=
  let ⟨hg, hd, _, _, hop, hx, hy⟩ := ho; wpList_store_run hr hg hop hx hy hd h

end

theorem load_part {w : World} {B : Nat} {t ty : TypeId} {cs : Array Value} (h : BoxN w B t cs) (off : Nat) (vs : Array Value) (he : cs.extract off (off + vs.size) = vs) (hu : ((Try.prog.underlying ty).map (·.isRow)) = some true) (hi : (Try.prog.info? ty).map (·.size) = some vs.size) :
    (Instr.loadAt ty (.pointer (some ⟨B, off, none⟩))).run Try.prog w = .ok (.agg vs) w := by
  obtain ⟨d, hd, hr⟩ := Option.map_eq_some_iff.1 hu
  have hc := World.rangeAt_of_block (w := w) h off vs.size
  rw [he] at hc
  have := run_loadAt_mid (P := Try.prog) w B off ty vs.toList d hc hd hr (by simpa using hi)
  simpa using this

def setsV (cs : Array Value) : Nat → List Value → Array Value
  | _, [] => cs
  | o, v :: r => setsV (cs.setIfInBounds o v) (o + 1) r

theorem boxN_setCells {B : Nat} {t : TypeId} : ∀ (V : List Value) (w : World) (cs : Array Value) (o : Nat), BoxN w B t cs → BoxN (w.setCells B o V) B t (setsV cs o V)
  | [], _, _, _, h => h
  | v :: r, _, _, o, h => boxN_setCells r _ _ (o + 1) (h.set o v)

theorem span_setCells : ∀ (V : List Value) (w : World) (B o : Nat), Span B (B + 1) w (w.setCells B o V)
  | [], w, B, o => Span.of_below _ _ (Below.refl _ _)
  | v :: r, w, B, o => (Span.set w B o v).trans (span_setCells r _ B (o + 1))

theorem size_setCells : ∀ (V : List Value) (w : World) (B o : Nat), (w.setCells B o V).heap.size = w.heap.size
  | [], _, _, _ => rfl
  | v :: r, w, B, o => (size_setCells r _ B (o + 1)).trans (by simp)

theorem store_part {w : World} {B : Nat} {t ty : TypeId} {cs cs' : Array Value} (h : BoxN w B t cs) (off : Nat) (vs : Array Value) (he : setsV cs off vs.toList = cs') (hle : off + vs.size ≤ cs.size) (hi : (Try.prog.info? ty).map (·.size) = some vs.size) (h1 : vs.all (·.oneCell') = true) :
    ∃ w', (Instr.storeAt ty (.pointer (some ⟨B, off, none⟩)) (.agg vs)).run Try.prog w = .ok () w' ∧ BoxN w' B t cs' ∧ Span B (B + 1) w w' ∧ w'.heap.size = w.heap.size := by
  refine ⟨w.setCells B off vs.toList, run_storeAt_mid w B off ty vs (fun j hj => ⟨?_, h.frozen _⟩) hi h1, he ▸ boxN_setCells vs.toList w cs off h, span_setCells _ _ _ _, size_setCells _ _ _ _⟩
  have hlt : off + j < cs.size := by omega
  rw [h.cell (off + j) cs[off + j] (Array.getElem?_eq_getElem hlt)]
  rfl

theorem store_one {w : World} {B : Nat} {t ty : TypeId} {cs cs' : Array Value} (h : BoxN w B t cs) (off : Nat) (v : Value) (he : cs.setIfInBounds off v = cs') (hr : (Instr.storeAt ty (.pointer (some ⟨B, off, none⟩)) v).run Try.prog w = .ok () (w.setCell ⟨B, off, none⟩ v)) :
    ∃ w', (Instr.storeAt ty (.pointer (some ⟨B, off, none⟩)) v).run Try.prog w = .ok () w' ∧ BoxN w' B t cs' ∧ Span B (B + 1) w w' ∧ w'.heap.size = w.heap.size :=
  ⟨_, hr, he ▸ h.set off v, Span.set _ _ _ _, by simp⟩

/-- A result that lies in a struct's box. -/
theorem result_box {fn : Func} {p : Tmp} {ty : TypeId} (h : fn.results = #[.cell p ty]) {tmps : Array Value} {w : World} {B : Nat} {t : TypeId} {cs : Array Value} (hb : BoxN w B t cs) (hp : tmps.getD p undef = .pointer (some ⟨B, 0, none⟩)) (hu : ((Try.prog.underlying ty).map (·.isRow)) = some true) (hi : (Try.prog.info? ty).map (·.size) = some cs.size) :
    (results fn tmps).run Try.prog w = .ok (.agg cs) w := by
  obtain ⟨d, hd, hr⟩ := Option.map_eq_some_iff.1 hu
  exact results_cell_row h tmps w B t cs (0, 0) d hp hb hd (by cases d <;> simp_all) hi

end Go.Proofs.Ytckfdbjjjgfbfaa
