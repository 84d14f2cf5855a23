/-
  What a run answers, in plain words; what its units keep.
-/
import Derived.Test.YtckfdbjjjgfbfaaURunNum
import Derived.Test.YtckfdbjjjgfbfaaUStepBack
import Derived.Test.YtckfdbjjjgfbfaaURegRun
namespace Go.Proofs.Ytckfdbjjjgfbfaa
set_option linter.unusedVariables false
set_option linter.unusedSimpArgs false
open Go.RowKit

theorem wrap8R (n : Int) : (IntKind.u8.wrap n).toNat < 256 := by simp [IntKind.wrap, IntKind.bits, IntKind.signed]; omega
theorem or8R (a b : Int) : (bits .or .u8 a b).toNat < 256 := wrap8R _
theorem and8R (a b : Int) : (bits .and .u8 a b).toNat < 256 := wrap8R _
theorem xor8R (a b : Int) : (bits .xor .u8 a b).toNat < 256 := wrap8R _
theorem adR8 (a b : Int) (d c : Bool) : (adR a b d c).toNat < 256 := by have := adR_bd a b d c; omega
theorem sbR8 (a b : Int) (d c : Bool) : (sbR a b d c).toNat < 256 := by have := sbR_bd a b d c; omega

/-- All bytes of a bus's memory are bytes. -/
def BusN.byt (b : BusN) : Prop := ∀ i, b.mem.getD i 0 < 256

theorem BusN.byt.get {b : BusN} (h : b.byt) (a : Nat) : b.get a < 256 := h _
theorem BusN.byt.rd {b : BusN} (h : b.byt) (a : Nat) : (b.rd a).byt := h
theorem BusN.byt.put {b : BusN} (h : b.byt) (a : Nat) {d : Nat} (hd : d < 256) : (b.put a d).byt := fun i => by
  show (b.mem.set (b.spot a) d).getD i 0 < 256
  have hi := h i
  rw [List.getD_eq_getElem?_getD] at hi ⊢
  rw [List.getElem?_set]
  split
  · split
    · exact hd
    · simp
  · exact hi

theorem word_ltR {x y : Nat} (hx : x < 256) (hy : y < 256) : word x y < 65536 := by unfold word; omega

theorem ok_ite {p : Prop} [Decidable p] {a b : CpuN} (h1 : a.ok) (h2 : b.ok) : (if p then a else b).ok := by split <;> assumption

theorem useL_ok {c : CpuN} (h : c.ok) (l : List UInt8) {m : Nat} (hm : m < 256) : (useL c l m).ok := by
  unfold useL
  repeat' (refine ok_ite ?_ ?_)
  all_goals (refine ⟨?_, ?_, ?_, ?_, ?_⟩ <;> first | exact h.1 | exact h.2.1 | exact h.2.2.1 | exact h.2.2.2.1 | exact h.2.2.2.2 | exact hm | exact or8R _ _ | exact and8R _ _ | exact xor8R _ _ | exact adR8 _ _ _ _ | exact sbR8 _ _ _ _)

theorem chg_ok {c : CpuN} (h : c.ok) (l : List UInt8) (m : Nat) : (c.chg l m).ok := h

theorem flagL_ok {c : CpuN} (h : c.ok) (l : List UInt8) : (flagL c l).ok := by
  unfold flagL
  repeat' (refine ok_ite ?_ ?_)
  all_goals exact h

theorem regL_ok {c : CpuN} (h : c.ok) (l : List UInt8) : (regL c l).ok := by
  have m1 : ∀ x : Nat, x % 256 < 256 := fun x => Nat.mod_lt _ (by decide)
  unfold regL
  repeat' (refine ok_ite ?_ ?_)
  all_goals (refine ⟨?_, ?_, ?_, ?_, ?_⟩ <;> first | exact h.1 | exact h.2.1 | exact h.2.2.1 | exact h.2.2.2.1 | exact h.2.2.2.2 | exact m1 _)

theorem impL_ok {c : CpuN} (h : c.ok) (l : List UInt8) (m : Int) : (impL c l m).ok := by
  unfold impL
  split
  · exact ⟨chgB_lt l c.A h.1 c.C, h.2⟩
  · exact flagL_ok (regL_ok h l) l

theorem atPC_ok {c : CpuN} (h : c.ok) {q : Nat} (hq : q < 65536) : ({ c with PC := q } : CpuN).ok := ⟨h.1, h.2.1, h.2.2.1, h.2.2.2.1, hq⟩

theorem m16 (x : Nat) : x % 65536 < 65536 := Nat.mod_lt _ (by decide)
theorem m8 (x : Nat) : x % 256 < 256 := Nat.mod_lt _ (by decide)

theorem pushN_ok {b : BusN} {c : CpuN} (hb : b.byt) (h : c.ok) (pc : Nat) (brk : Bool) (vec : Nat) : (pushN b c pc brk vec).1.ok ∧ (pushN b c pc brk vec).2.byt := by
  have hb3 := ((hb.put (stk c.S) (m8 (pc / 256))).put (stk (c.S + 255)) (m8 pc)).put (stk (c.S + 254)) (pkV_nat c.N c.V brk c.D c.I c.Z c.C)
  exact ⟨⟨h.1, h.2.1, h.2.2.1, m8 _, word_ltR (hb3.get _) (hb3.get _)⟩, hb3⟩

theorem branchN_ok {b : BusN} {c : CpuN} (hb : b.byt) (h : c.ok) (l : List UInt8) : (branchN b c l).1.ok ∧ (branchN b c l).2.byt := by
  unfold branchN
  dsimp only
  split
  · refine ⟨atPC_ok h (m16 _), ?_⟩
    show BusN.byt (if _ then _ else _)
    split
    · exact hb
    · exact hb
  · exact ⟨atPC_ok h (m16 _), hb⟩

theorem holdN_ok {b : BusN} {c : CpuN} (hb : b.byt) (h : c.ok) (l : List UInt8) : (holdN b c l).1.ok ∧ (holdN b c l).2.byt := by
  unfold holdN
  dsimp only
  split
  · exact ⟨⟨h.1, h.2.1, h.2.2.1, m8 _, m16 _⟩, hb.put _ h.1⟩
  · split
    · exact ⟨⟨h.1, h.2.1, h.2.2.1, m8 _, m16 _⟩, hb.put _ (pkV_nat _ _ _ _ _ _ _)⟩
    · split
      · exact ⟨⟨h.1, h.2.1, h.2.2.1, m8 _, m16 _⟩, hb⟩
      · exact ⟨⟨hb.get _, h.2.1, h.2.2.1, m8 _, m16 _⟩, hb⟩

theorem goN_ok {b : BusN} {c : CpuN} (hb : b.byt) (h : c.ok) (l : List UInt8) (m : Int) : (goN b c l m).1.ok ∧ (goN b c l m).2.byt := by
  unfold goN
  dsimp only
  split
  · split
    · exact ⟨atPC_ok h (word_ltR (hb.get _) (hb.get _)), hb⟩
    · exact ⟨atPC_ok h (word_ltR (hb.get _) (hb.get _)), hb⟩
  · split
    · have hb4 := (((hb.rd (c.PC + 1)).rd (stk c.S)).put (stk c.S) (d := (c.PC + 2) % 65536 / 256) (by have := m16 (c.PC + 2); omega)).put (stk (c.S + 255)) (m8 ((c.PC + 2) % 65536))
      exact ⟨⟨h.1, h.2.1, h.2.2.1, m8 _, word_ltR (hb.get _) (hb4.get _)⟩, hb4⟩
    · split
      · exact ⟨⟨h.1, h.2.1, h.2.2.1, m8 _, m16 _⟩, hb⟩
      · split
        · exact ⟨⟨h.1, h.2.1, h.2.2.1, m8 _, word_ltR (hb.get _) (hb.get _)⟩, hb⟩
        · split
          · exact pushN_ok (hb.rd _) h _ _ _
          · exact holdN_ok (hb.rd _) h l

theorem baseN_byt {b : BusN} (hb : b.byt) (c : CpuN) (m : Int) : (baseN b c m).2.byt := by
  unfold baseN
  dsimp only
  split <;> exact hb

theorem placeN_byt {b : BusN} (hb : b.byt) (c : CpuN) (m k : Int) : (placeN b c m k).2.byt := by
  unfold placeN
  dsimp only
  repeat' split
  all_goals first | exact hb | exact baseN_byt hb c m

theorem storeL_256 {c : CpuN} (h : c.ok) (l : List UInt8) : storeL c l < 256 := by
  unfold storeL
  repeat' split
  · exact h.2.1
  · exact h.2.2.1
  · exact h.1

theorem dataN_ok {b : BusN} {c : CpuN} (hb : b.byt) (h : c.ok) (code : Nat) : (dataN b c code).1.ok ∧ (dataN b c code).2.byt := by
  unfold dataN
  dsimp only
  split
  · exact ⟨atPC_ok (useL_ok h _ (hb.get _)) (m16 _), hb⟩
  · have hp := placeN_byt hb c (opMode code) (opKind code)
    have hc1 := atPC_ok h (m16 (c.PC + (opSize code).toNat))
    split
    · exact ⟨useL_ok hc1 _ (hp.get _), hp⟩
    · split
      · exact ⟨hc1, hp.put _ (storeL_256 hc1 _)⟩
      · exact ⟨chg_ok hc1 _ _, ((hp.rd _).put _ (hp.get _)).put _ (chgB_lt _ _ (hp.get _) _)⟩

theorem opN_ok {b : BusN} {c : CpuN} (hb : b.byt) (h : c.ok) : (opN b c).1.ok ∧ (opN b c).2.byt := by
  unfold opN
  dsimp only
  split
  · exact ⟨atPC_ok (impL_ok h _ _) (m16 _), hb⟩
  · split
    · exact branchN_ok (hb.rd _) h _
    · split
      · exact dataN_ok (hb.rd _) h _
      · exact goN_ok (hb.rd _) h _ _

theorem stepN_ok {c : CpuN} {L : List Nat} (h : c.ok) (hb : ∀ i, L.getD i 0 < 256) : (stepN c L).1.ok := by
  unfold stepN
  split
  · split
    · exact h
    · exact (opN_ok (b := ⟨L, []⟩) hb h).1
  · exact cpu0_ok

theorem servedN_ok {c : CpuN} {L : List Nat} (h : c.ok) (hb : ∀ i, L.getD i 0 < 256) (nmi : Bool) : (servedN c L nmi).1.ok := by
  unfold servedN
  split
  · exact (pushN_ok (b := ((⟨L, []⟩ : BusN).rd c.PC).rd c.PC) hb h _ _ _).1
  · exact cpu0_ok

theorem RowB.all {w : World} {a : Option Addr} {L : List Nat} (h : RowB w a L) (i : Nat) : L.getD i 0 < 256 := h.byte' i

end Go.Proofs.Ytckfdbjjjgfbfaa

namespace Go.Proofs.Ytckfdbjjjgfbfaa
set_option linter.unusedVariables false
set_option linter.unusedSimpArgs false
open Go.RowKit

def ShotN.int (s : ShotN) : ShotI := ⟨s.cpu, s.mem, s.trace, s.starts.map (fun (n : Nat) => (n : Int)), s.cpus, s.jam⟩

/-- Whether a run is played at all. -/
def runOk (L : List Nat) (E : List EvN) (n : Int) : Prop := ramN L.length = true ∧ 0 ≤ n ∧ n ≤ 120 ∧ E.length ≤ 16

instance (L : List Nat) (E : List EvN) (n : Int) : Decidable (runOk L E n) := by unfold runOk; exact inferInstance

/-- What Run tells. -/
def shownN (c : CpuN) (L : List Nat) (E : List EvN) (n : Int) : ShotN := if runOk L E n then runN c L E n.toNat else ⟨cpu0, [], [], [], [], false⟩

/-- The answer: a shot whose rows are the call's own. -/
def Shown (w : World) (s : ShotI) (e : Ending) (w' : World) : Prop := ∃ m t st p, e = .returned (shotV s.cpu m t st p s.jam) ∧ ShotOwn w' w.heap.size w'.heap.size m t st p s ∧ Below w.heap.size w w'

/-- A run that is under way: unit k comes next. -/
structure Under (c : CpuN) (L : List Nat) (E : List EvN) (k : Nat) (s : ShotN) : Prop where
  is : s = unitsN E k 0 (beginN c L)
  ok : s.cpu.ok
  ram : s.mem.length = L.length
  many : s.trace.length ≤ 8 * k
  starts : s.starts.length = k
  cpus : s.cpus.length = k
  jam : s.jam = false

theorem unitsN_end (E : List EvN) (k : Nat) (s : ShotN) (h : (unitsN E k 0 s).jam = false) : unitsN E (k + 1) 0 s = unitN E k (unitsN E k 0 s) := by
  rw [unitsN_add E k 1 0 s, Nat.zero_add, unitsN_succ, if_neg (by rw [h]; exact Bool.false_ne_true)]
  rfl

theorem Under.on {c : CpuN} {L : List Nat} {E : List EvN} {k : Nat} {s : ShotN} (h : Under c L E k s) {r : CpuN × BusN} (hu : unitN E k s = s.on r) (hok : r.1.ok) (hm : r.2.mem.length = s.mem.length) (hl : r.2.log.length ≤ 8) : Under c L E (k + 1) (s.on r) := by
  have e := unitsN_end E k (beginN c L) (by rw [← h.is]; exact h.jam)
  rw [← h.is, hu] at e
  refine ⟨e.symm, hok, hm.trans h.ram, ?_, ?_, ?_, h.jam⟩
  · show (s.trace ++ r.2.log).length ≤ 8 * (k + 1)
    rw [List.length_append]; have := h.many; omega
  · show (s.starts ++ [s.trace.length]).length = k + 1
    rw [List.length_append, h.starts]; rfl
  · show (s.cpus ++ [s.cpu]).length = k + 1
    rw [List.length_append, h.cpus]; rfl

theorem Under.begin (c : CpuN) (hc : c.ok) (L : List Nat) (E : List EvN) : Under c L E 0 (beginN c L) := ⟨rfl, hc, rfl, Nat.le_refl _, rfl, rfl, rfl⟩

/-- A run that jams at unit k. -/
theorem Under.jams {c : CpuN} {L : List Nat} {E : List EvN} {k : Nat} {s : ShotN} (h : Under c L E k s) (hu : unitN E k s = { s with jam := true }) (n : Nat) (hn : k < n) : unitsN E n 0 (beginN c L) = { s with jam := true } := by
  obtain ⟨m, rfl⟩ : ∃ m, n = (k + 1) + m := ⟨n - (k + 1), by omega⟩
  have e := unitsN_end E k (beginN c L) (by rw [← h.is]; exact h.jam)
  rw [← h.is, hu] at e
  rw [unitsN_add, e, unitsN_jam _ _ _ _ rfl]

theorem stepN_jam {c : CpuN} {L : List Nat} (h : jamsN L c.PC = true) : stepN c L = (c, ⟨L, []⟩) := by
  have hr : ramN L.length = true := by unfold jamsN at h; rw [Bool.and_eq_true] at h; exact h.1
  unfold stepN
  rw [if_pos hr, if_pos h]

theorem ramN_of {L M : List Nat} (h : ramN L.length = true) (e : M.length = L.length) : ramN M.length = true := by rw [e]; exact h

theorem shot_none (w : World) (N hi : Nat) (h : N ≤ hi) : ShotOwn w N hi (.slice none 0 0) (.slice none 0 0) (.slice none 0 0) (.slice none 0 0) ⟨cpu0, [], [], [], [], false⟩ := by
  have hk : ∀ k, (Value.slice none 0 0).ownBlock = some k → k < N := fun k ek => by simp [Value.ownBlock] at ek
  exact ⟨N, N, N, N, N, N, N, N, ⟨⟨fun i hi => by simp at hi, World.ownsRow_nil w N _ _⟩, hk⟩, ⟨World.ownsRow_nil w N _ _, hk⟩, ⟨World.ownsRow_nil w N _ _, hk⟩, ⟨World.ownsRow_nil w N _ _, hk⟩, by omega, by omega⟩

/-- The rows' places: all behind the start, and no two of them, nor one of them and the shot's box, in one another's way. -/
def Places (N Z P l1 h1 l2 h2 l3 h3 l4 h4 : Nat) : Prop :=
  (N ≤ l1 ∧ l1 ≤ h1 ∧ h1 ≤ Z) ∧ (N ≤ l2 ∧ l2 ≤ h2 ∧ h2 ≤ Z) ∧ (N ≤ l3 ∧ l3 ≤ h3 ∧ h3 ≤ Z) ∧ (N ≤ l4 ∧ l4 ≤ h4 ∧ h4 ≤ Z) ∧ (N ≤ P ∧ P < Z) ∧
  (h1 ≤ l2 ∨ h2 ≤ l1) ∧ (h1 ≤ l3 ∨ h3 ≤ l1) ∧ (h1 ≤ l4 ∨ h4 ≤ l1) ∧ (h2 ≤ l3 ∨ h3 ≤ l2) ∧ (h2 ≤ l4 ∨ h4 ≤ l2) ∧ (h3 ≤ l4 ∨ h4 ≤ l3) ∧
  (h1 ≤ P ∨ P + 1 ≤ l1) ∧ (h2 ≤ P ∨ P + 1 ≤ l2) ∧ (h3 ≤ P ∨ P + 1 ≤ l3) ∧ (h4 ≤ P ∨ P + 1 ≤ l4)

end Go.Proofs.Ytckfdbjjjgfbfaa
