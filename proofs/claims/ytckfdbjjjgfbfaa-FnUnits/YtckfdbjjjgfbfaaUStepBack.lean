/-
  Plain facts on steps at known operations, without any Go: an RTI behind an interrupt, an RTS behind a JSR, what is pulled behind what was pushed.
-/
import Derived.Test.YtckfdbjjjgfbfaaUDrawRam
import Derived.Test.YtckfdbjjjgfbfaaURunA
import Derived.Test.YtckfdbjjjgfbfaaURunNum
import Derived.Test.YtckfdbjjjgfbfaaURegMore
import Derived.Test.YtckfdbjjjgfbfaaUStepS
namespace Go.Proofs.Ytckfdbjjjgfbfaa
set_option linter.unusedVariables false
set_option linter.unusedSimpArgs false
open Go.RowKit

theorem oneEv : ∀ x : EvN, ∀ u ∈ encEv.cells x, u.oneCell' = true := fun x u hu => by
  simp [encEv] at hu
  rcases hu with rfl | rfl <;> rfl

/-- One event more. -/
theorem events_append {w : World} {lo hi : Nat} {v : Value} {L : List EvN} (h : SegG encEv w lo hi v L) (hhi : hi ≤ w.heap.size) (hlo : lo ≤ w.heap.size) (x : EvN) (g : Nat) (hg : BoxN w g 98 #[.int .i64 x.at', .bool x.nmi]) (hsm : L.length ≤ 1000000) (c : Nat) :
    ∃ g' cap' w', (∀ ty, (Builtin.append_ #[62, 62] ty #[v, .slice (some ⟨g, 0, none⟩) 1 c]).run Try.prog w = .ok (.slice (some ⟨g', 0, none⟩) (L.length + 1) cap') w') ∧ SegG encEv w' g' (g' + 1) (.slice (some ⟨g', 0, none⟩) (L.length + 1) cap') (L ++ [x]) ∧ Span lo hi w w' ∧ ((lo ≤ g' ∧ g' < hi) ∨ g' = w.heap.size) ∧ g' < w'.heap.size :=
  seg_append encEv ev0 (by decide) 62 (.agg #[.int .i64 0, .bool false]) 16 Try.underlying62 infoEventG rfl h hhi hlo g 0 c (X := [x]) (fun j u hu => by
    rw [Nat.zero_add]
    exact hg.cell j u (by simpa [encEv] using hu)) oneEv (by simp) (by simp; omega) (by simp; omega)

theorem Drawn.span {n₀ B : Nat} {a : Option Addr} {len cap : Nat} {z : List Int} {s : Nat × Int} {w w' : World} {lo hi : Nat} (h : Drawn n₀ B a len cap z s w) (hs : Span lo hi w w') (hB : B < lo) : Drawn n₀ B a len cap z s w' :=
  ⟨h.1.kept (hs.below (by have := h.2.2; omega) (by have := h.lt; have := h.2.2; omega)), (hs.block B h.lt (.inl hB)).trans h.2.1, h.2.2⟩

theorem grown_span {w w1 w2 : World} {B lo hi : Nat} (h : w.grownBy w1 (some B)) (hs : Span lo hi w1 w2) (hlo : w.heap.size ≤ lo) : w.grownBy w2 (some B) :=
  ⟨hs.os.trans h.os, hs.tape.trans h.tape, hs.output.trans h.output, Nat.le_trans h.size hs.size, fun i hi hn => (hs.block i (Nat.lt_of_lt_of_le hi h.size) (.inl (by omega))).trans (h.block i hi hn)⟩

theorem OwnG.grown {α : Type} {e : Enc α} {w w' : World} {base B : Nat} {v : Value} {L : List α} (h : OwnG e w base v L) (hg : w.grownBy w' (some B)) (hB : B < base) : OwnG e w' base v L := by
  refine World.ownsRow.kept h hg ?_
  cases hv : v.ownBlock with
  | none => exact .inl rfl
  | some g =>
    refine .inr ?_
    have := (World.ownsRow.lt h) g hv
    intro e
    simp at e
    omega

/-- Events that are drawn, in memory of their own. -/
def DrewEvents (n₀ B : Nat) (a : Option Addr) (len cap : Nat) (z : List Int) (w : World) (e : Ending) (w' : World) : Prop :=
  ∃ (v : Value) (E : List EvN) (s : Nat × Int), E.length ≤ 3 ∧ e = .returned v ∧ OwnG encEv w' w.heap.size v E ∧ Drawn n₀ B a len cap z s w' ∧ w.grownBy w' (some B)

/-- One event more, behind what is drawn. -/
theorem event_step {n₀ B : Nat} {a : Option Addr} {len cap : Nat} {z : List Int} {s : Nat × Int} {w wr : World} {v : Value} {E : List EvN} (hB : B < w.heap.size) (hO : OwnG encEv wr w.heap.size v E) (hd : Drawn n₀ B a len cap z s wr) (hg : w.grownBy wr (some B)) (hE : E.length ≤ 100) (x : EvN) :
    ∃ g' cap' w', (∀ ty, (Builtin.append_ #[62, 62] ty #[v, .slice (some ⟨wr.heap.size, 0, none⟩) 1 1]).run Try.prog (wr.alloc (.cells #[.int .i64 x.at', .bool x.nmi] 98)) = .ok (.slice (some ⟨g', 0, none⟩) (E.length + 1) cap') w') ∧
      OwnG encEv w' w.heap.size (.slice (some ⟨g', 0, none⟩) (E.length + 1) cap') (E ++ [x]) ∧ Drawn n₀ B a len cap z s w' ∧ w.grownBy w' (some B) := by
  have hsz := hg.size
  have hk : Below wr.heap.size wr (wr.alloc (.cells #[.int .i64 x.at', .bool x.nmi] 98)) := (Below.refl _ _).alloc (Nat.le_refl _) _
  have bx := BoxN.new wr 98 #[.int .i64 x.at', .bool x.nmi]
  obtain ⟨g', cap', w', hr, hs, hsp, hat, hlt⟩ := events_append ((SegG.of hO).below hk) hk.size (by rw [World.size_alloc]; omega) x wr.heap.size bx (by omega) 1
  rw [World.size_alloc] at hat
  refine ⟨g', cap', w', hr, ?_, (hd.alloc _).span hsp hB, grown_span (grown_trans hg (World.grownBy_alloc wr _ (some B))) hsp (Nat.le_refl _)⟩
  exact OwnG.up hs.1 (fun k ek => by simp only [Value.ownBlock, Option.some.injEq] at ek; omega)

set_option maxRecDepth 100000 in
set_option maxHeartbeats 1600000 in
theorem events_drawn (n₀ B : Nat) (a : Option Addr) (len cap : Nat) (z : List Int) (s : Nat × Int) (w : World) (h : Drawn n₀ B a len cap z s w) :
    Calls Try.prog 22 #[.pointer (some ⟨B, 0, none⟩)] w (DrewEvents n₀ B a len cap z w) := by
  have hBw := h.lt
  obtain ⟨q0, q1⟩ := belowV_bound z len s 4 (by omega)
  obtain ⟨n, hn⟩ := Int.eq_ofNat_of_zero_le q0
  rw [hn] at q1
  have hn3 : n ≤ 3 := by omega
  have HN := Lib.hid hn
  clear hn q0 q1
  go_enter Try.func22, Try.ntmps22
  go_wp2_with fail
  refine (below_drawn n₀ B a len cap z s 4 _ (h.alloc _)).mono ?_
  rintro e w1 ⟨rfl, hd1, hg1⟩
  rw [HN.out]
  have hO1 : OwnG encEv w1 w.heap.size (.slice (some ⟨w.heap.size, 0, none⟩) 0 0) [] := OwnG.grown (World.ownsRow_made w #[] 0 (Nat.le_refl _) (by decide) rfl) hg1 hBw
  have hG1 := grown_trans (World.grownBy_alloc w (.cells #[] 98) (some B)) hg1
  clear h hg1
  go_wp2
  go_loopw [3, 5] (fun out i wr => ∃ (j : Nat) (E : List EvN) (s' : Nat × Int), j ≤ n ∧ E.length = j ∧ i = .int .i64 j ∧ OwnG encEv wr w.heap.size out E ∧ Drawn n₀ B a len cap z s' wr ∧ w.grownBy wr (some B)) (fun _ i _ => n - (intOf i).toNat)
  case atStart => exact ⟨0, [], _, Nat.zero_le _, rfl, rfl, hO1, hd1, hG1⟩
  case round =>
    obtain ⟨j, E, s', hj, rfl, rfl, hO, hd, hg⟩ := hrel
    by_cases hp : E.length < n
    · go_wp2_with fail
      refine (below_drawn n₀ B a len cap z s' 20 _ hd).mono ?_
      rintro e w2 ⟨rfl, hd2, hg2⟩
      have hO2 := hO.grown hg2 hBw
      have hG2 := grown_trans hg hg2
      clear hO hd hg hg2
      go_wp2_with fail
      refine (once_drawn n₀ B a len cap z _ 3 _ hd2).mono ?_
      rintro e w3 ⟨rfl, hd3, hg3⟩
      have hO3 := hO2.grown hg3 hBw
      have hG3 := grown_trans hG2 hg3
      clear hO2 hd2 hG2 hg3
      obtain ⟨g', c', w4, hr, hO4, hd4, hG4⟩ := event_step hBw hO3 hd3 hG3 (by omega) ⟨belowV z len s' 20, belowV z len (belowS len s' 20) 3 == 0⟩
      clear hO3 hd3 hG3
      replace hr := Lib.hid hr
      go_wp2_with (at_builtin; refine wpList_append_run hr.out rfl rfl rfl rfl ?_)
      go_roundw
      case rel => exact ⟨E.length + 1, _, _, by omega, by rw [List.length_append]; rfl, by go_num, hO4, hd4, hG4⟩
      case measure => simp [intOf]; omega
    · go_wp2
      go_ret
      exact ⟨_, E, s', by omega, rfl, hO, hd, hg⟩

end Go.Proofs.Ytckfdbjjjgfbfaa

namespace Go.Proofs.Ytckfdbjjjgfbfaa
set_option linter.unusedVariables false
set_option linter.unusedSimpArgs false
open Go.RowKit

theorem stepN_mem {c : CpuN} {L : List Nat} (hr : ramN L.length = true) : (stepN c L).2.mem.length = L.length := by
  unfold stepN
  rw [if_pos hr]
  split
  · rfl
  · exact (opN_grew ⟨L, []⟩ c).1

theorem servedN_mem {c : CpuN} {L : List Nat} {nmi : Bool} (hr : ramN L.length = true) : (servedN c L nmi).2.mem.length = L.length := by
  unfold servedN
  rw [if_pos hr]
  exact (pushN_grew (((Grew.same ⟨L, []⟩ 0).rd (a := c.PC)).rd (a := c.PC)) c c.PC false (if nmi then 65530 else 65534)).1

theorem stepN_many {c : CpuN} {L : List Nat} (hr : ramN L.length = true) (hj : jamsN L c.PC = false) : 0 < (stepN c L).2.log.length := by
  have h := (opN_good (L := L) (by have := ramN_pos hr; omega) c).many
  unfold stepN
  rw [if_pos hr, if_neg (by rw [hj]; exact Bool.false_ne_true)]
  omega

theorem servedN_many {c : CpuN} {L : List Nat} {nmi : Bool} (hr : ramN L.length = true) : 0 < (servedN c L nmi).2.log.length := by
  unfold servedN
  rw [if_pos hr]
  unfold serveN pushN
  simp [BusN.rd, BusN.put]

/-- The starts of a run's units. -/
structure Rise (s : ShotN) : Prop where
  up : s.starts.Pairwise (· < ·)
  within : ∀ x ∈ s.starts, x < s.trace.length
  first : 0 < s.trace.length → s.starts.head? = some 0
  ram : ramN s.mem.length = true

theorem rise_on {s : ShotN} (h : Rise s) {r : CpuN × BusN} (hm : r.2.mem.length = s.mem.length) (hl : 0 < r.2.log.length) : Rise (s.on r) := by
  refine ⟨?_, ?_, ?_, ?_⟩
  · show (s.starts ++ [s.trace.length]).Pairwise (· < ·)
    rw [List.pairwise_append]
    exact ⟨h.up, List.pairwise_singleton _ _, fun a ha b hb => by rw [List.mem_singleton.1 hb]; exact h.within a ha⟩
  · intro x hx
    have hx' : x ∈ s.starts ++ [s.trace.length] := hx
    show x < (s.trace ++ r.2.log).length
    rw [List.length_append]
    rcases List.mem_append.1 hx' with h1 | h1
    · have := h.within x h1; omega
    · rw [List.mem_singleton.1 h1]; omega
  · intro _
    show (s.starts ++ [s.trace.length]).head? = some 0
    cases hs : s.starts with
    | nil =>
      by_cases ht : 0 < s.trace.length
      · have := h.first ht; rw [hs] at this; cases this
      · have h0 : s.trace.length = 0 := by omega
        rw [h0]; rfl
    | cons a t =>
      have ht : 0 < s.trace.length := by have := h.within a (by rw [hs]; exact List.mem_cons_self ..); omega
      have := h.first ht
      rw [hs] at this
      simpa using this
  · show ramN r.2.mem.length = true
    rw [hm]; exact h.ram

theorem rise_unit (E : List EvN) (k : Nat) {s : ShotN} (h : Rise s) : Rise (unitN E k s) := by
  unfold unitN
  split
  · exact rise_on h (servedN_mem h.ram) (servedN_many h.ram)
  · split
    · exact rise_on h (servedN_mem h.ram) (servedN_many h.ram)
    · split
      · exact ⟨h.up, h.within, h.first, h.ram⟩
      · rename_i hj
        exact rise_on h (stepN_mem h.ram) (stepN_many h.ram (by simpa using hj))

theorem rise_units (E : List EvN) : ∀ (n k : Nat) (s : ShotN), Rise s → Rise (unitsN E n k s)
  | 0, _, _, h => h
  | n + 1, k, s, h => by
    rw [unitsN_succ]
    split
    · exact h
    · exact rise_units E n (k + 1) _ (rise_unit E k h)

theorem rise_run (c : CpuN) (L : List Nat) (E : List EvN) (n : Nat) (hr : ramN L.length = true) : Rise (runN c L E n) :=
  rise_units E n 0 _ ⟨List.Pairwise.nil, fun x hx => absurd hx (List.not_mem_nil), fun h => absurd h (Nat.lt_irrefl 0), hr⟩

/-- How many starts are at or ahead of a place. -/
def upTo (S : List Int) (i : Int) : Nat := (S.filter fun x => decide (x ≤ i)).length

def unitAtN (S : List Int) (n : Nat) (i : Int) : Int := if 0 ≤ i ∧ i ≤ (n : Int) - 1 then (upTo S i : Int) - 1 else -1

theorem upTo_le (S : List Int) (i : Int) : upTo S i ≤ S.length := List.length_filter_le _ _

theorem upTo_none {S : List Int} {i : Int} (h : ∀ x ∈ S, i < x) : upTo S i = 0 := by
  unfold upTo
  rw [List.length_eq_zero_iff, List.filter_eq_nil_iff]
  intro x hx
  have := h x hx
  simp; omega

theorem upTo_at : ∀ (S : List Int) (i : Int), S.Pairwise (· < ·) → ∀ j (hj : j < S.length), S[j] ≤ i ↔ j < upTo S i
  | [], _, _, j, hj => absurd hj (Nat.not_lt_zero j)
  | x :: r, i, hp, j, hj => by
    rw [List.pairwise_cons] at hp
    by_cases hx : x ≤ i
    · have e : upTo (x :: r) i = upTo r i + 1 := by unfold upTo; rw [List.filter_cons_of_pos (by simpa using hx), List.length_cons]
      rw [e]
      cases j with
      | zero => simp; exact hx
      | succ j =>
        have := upTo_at r i hp.2 j (by simpa using hj)
        simp only [List.getElem_cons_succ]
        rw [this]; omega
    · have hn : ∀ y ∈ x :: r, i < y := by
        intro y hy
        rcases List.mem_cons.1 hy with rfl | hy
        · omega
        · have := hp.1 y hy; omega
      rw [upTo_none hn]
      have := hn (x :: r)[j] (List.getElem_mem hj)
      omega

/-- The unit of a cycle: its start is at or ahead of the cycle, the next one's isn't; the start's own unit is it. -/
theorem unit_at {S : List Int} {n : Nat} {i : Int} (hp : S.Pairwise (· < ·)) (hw : ∀ x ∈ S, 0 ≤ x ∧ x < (n : Int)) (h0 : S.head? = some 0) (hi : 0 ≤ i) (hn : i < (n : Int)) :
    ∃ u : Nat, ∃ hu : u < S.length, unitAtN S n i = (u : Int) ∧ S[u] ≤ i ∧ (∀ hv : u + 1 < S.length, i < S[u + 1]) ∧ unitAtN S n S[u] = (u : Int) := by
  have hs : 0 < S.length := by cases S with | nil => cases h0 | cons a t => simp
  have hz : S[0] = 0 := by cases S with | nil => cases h0 | cons a t => simpa using h0
  have h1 : 0 < upTo S i := (upTo_at S i hp 0 hs).1 (by rw [hz]; exact hi)
  have h2 := upTo_le S i
  refine ⟨upTo S i - 1, by omega, ?_, (upTo_at S i hp _ (by omega)).2 (by omega), fun hv => ?_, ?_⟩
  · unfold unitAtN
    rw [if_pos ⟨hi, by omega⟩]
    omega
  · have := upTo_at S i hp (upTo S i - 1 + 1) hv
    omega
  · have hb := hw _ (List.getElem_mem (by omega : upTo S i - 1 < S.length))
    have ha := upTo_at S S[upTo S i - 1] hp (upTo S i - 1) (by omega)
    have h3 : upTo S i - 1 < upTo S S[upTo S i - 1] := ha.1 (Int.le_refl _)
    have h4 : ¬ upTo S i - 1 + 1 < upTo S S[upTo S i - 1] := by
      intro h
      have h5 := upTo_le S S[upTo S i - 1]
      have h6 := (upTo_at S S[upTo S i - 1] hp (upTo S i - 1 + 1) (by omega)).2 h
      have h7 := (List.pairwise_iff_getElem.1 hp) (upTo S i - 1) (upTo S i - 1 + 1) (by omega) (by omega) (by omega)
      omega
    unfold unitAtN
    rw [if_pos ⟨hb.1, by omega⟩]
    omega

end Go.Proofs.Ytckfdbjjjgfbfaa

namespace Go.Proofs.Ytckfdbjjjgfbfaa
set_option linter.unusedVariables false
set_option linter.unusedSimpArgs false
open Go.RowKit

theorem getD_set_ne (M : List Nat) {i j : Nat} (d : Nat) (h : j ≠ i) : (M.set i d).getD j 0 = M.getD j 0 := by
  simp [List.getD, List.getElem?_set_ne (Ne.symm h)]

theorem getD_set_eq (M : List Nat) {i j : Nat} (d : Nat) (h : j = i) (hi : i < M.length) : (M.set i d).getD j 0 = d := by
  subst h
  simp [List.getD, hi]

theorem pkV_nat (n v brk d i z c : Bool) : (pkV n v brk d i z c).toNat < 256 := by have := pkV_bd n v brk d i z c; omega

/-- Bytes alone. -/
def AllB (M : List Nat) : Prop := ∀ i, M.getD i 0 < 256

theorem AllB.set {M : List Nat} (h : AllB M) (i : Nat) {d : Nat} (hd : d < 256) : AllB (M.set i d) := by
  intro j
  by_cases hj : j = i
  · by_cases hi : i < M.length
    · rw [getD_set_eq M d hj hi]; exact hd
    · rw [List.set_eq_of_length_le (by omega)]; exact h j
  · rw [getD_set_ne M d hj]; exact h j

end Go.Proofs.Ytckfdbjjjgfbfaa
