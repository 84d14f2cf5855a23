/-
  A contract over the law's own helper: two rows that hold the same texts are told so; and what the rows hold, cell by cell.
-/
import Derived.Test.YtcblinodfgdgfaaSpecCut
import Derived.Deep.QuietTactic
import Derived.BigQuiet
import Derived.Deep.Draws
import Derived.WalkSmall
namespace Go.Proofs.Ytcblinodfgdgfaa
open Go.RowKit

theorem addr_at (g j : Nat) : (⟨g, 0, none⟩ : Addr).add j = ⟨g, j, none⟩ := by
  unfold Addr.add; split <;> simp_all

/-- A row of texts that isn't empty, cell by cell. -/
theorem own_cells {w : World} {base : Nat} {v : Value} {L : List ByteArray} (h : OwnStrs w base v L) (hL : 0 < L.length) :
    ∃ g cap cur, v = .slice (some ⟨g, 0, none⟩) L.length cap ∧ base ≤ g ∧ g < w.heap.size ∧ w.heap[g]? = some (.cells cur 9 (0, 0)) ∧ L.length ≤ cap ∧ cap ≤ maxLen ∧ cur.size = cap ∧ ∀ i, i < L.length → w.cell? ⟨g, i, none⟩ = some (.string (L.getD i ByteArray.empty)) := by
  have h' := h
  rcases h.2 with ⟨_, h0⟩ | ⟨g, cap, cur, rfl, hb, hg, h1, h2, h3, _⟩
  · omega
  · refine ⟨g, cap, cur, rfl, hb, (Array.getElem?_eq_some_iff.1 hg).1, hg, h1, h2, by simpa using h3, fun i hi => ?_⟩
    have := World.ownsRow.cells h' (g := g) rfl i (.string (L.getD i ByteArray.empty)) (by simp [List.getD, hi])
    rwa [addr_at] at this

set_option maxRecDepth 100000 in
theorem sameTexts_true (v1 v2 : Value) (b1 b2 : Nat) (L : List ByteArray) (w : World) (hl : L.length ≤ 9223372036854775806) (h1 : OwnStrs w b1 v1 L) (h2 : OwnStrs w b2 v2 L) :
    Calls Try.prog 12 #[v1, v2] w fun e w' => e = .returned (.bool true) ∧ ∃ k, w' = w.drewN k := by
  by_cases hL : 0 < L.length
  · obtain ⟨g1, c1, _, rfl, _, _, _, _, _, _, hc1⟩ := own_cells h1 hL
    obtain ⟨g2, c2, _, rfl, _, _, _, _, _, _, hc2⟩ := own_cells h2 hL
    clear h1 h2
    have HC1 := Lib.hid hc1
    have HC2 := Lib.hid hc2
    clear hc1 hc2
    go_enter Try.func12, Try.ntmps12
    go_wp2
    go_loopw [5] (fun i wr => ∃ k d : Nat, k ≤ L.length ∧ i = .int .i64 k ∧ wr = w.drewN d) (fun i _ => L.length - (intOf i).toNat)
    case atStart => exact ⟨0, 0, Nat.zero_le _, rfl, rfl⟩
    case round =>
      obtain ⟨k, d, hk, rfl, rfl⟩ := hrel
      by_cases hp : k < L.length
      · have e1 := HC1.out k hp
        have e2 := HC2.out k hp
        go_wp2
        go_quiet (fail)
        go_wp2
        go_roundw
        case rel => exact ⟨k + 1, _, by omega, by go_num, rfl⟩
        case measure => simp [intOf]; omega
      · go_wp2
        go_ret
        exact ⟨rfl, _, rfl⟩
  · obtain ⟨a1, c1, rfl⟩ := own_len h1
    obtain ⟨a2, c2, rfl⟩ := own_len h2
    rw [show L.length = 0 by omega]
    clear h1 h2 hL hl
    go_enter Try.func12, Try.ntmps12
    go_wp2
    refine wp_loop_rounds 1 ?_
    rw [rounds_succ]
    go_wp2
    go_ret
    exact ⟨rfl, 0, rfl⟩

theorem own_view {w : World} {base : Nat} {v : Value} {L : List ByteArray} (h : OwnStrs w base v L) : ∃ a cap, v = .slice a L.length cap ∧ ∀ i, i < L.length → ∃ g, a = some ⟨g, 0, none⟩ ∧ g < w.heap.size ∧ w.cell? ⟨g, i, none⟩ = some (.string (L.getD i ByteArray.empty)) := by
  obtain ⟨a, cap, rfl⟩ := own_len h
  refine ⟨a, cap, rfl, fun i hi => ?_⟩
  obtain ⟨g, c, _, hv, _, hlt, _, _, _, _, hc⟩ := own_cells h (by omega)
  cases hv
  exact ⟨g, rfl, hlt, hc i hi⟩

theorem own_below {w w' : World} {base : Nat} {v : Value} {L : List ByteArray} (h : OwnStrs w base v L) (hb : Below w.heap.size w w') : OwnStrs w' base v L := by
  refine World.ownsRow.kept h (row := none) ⟨hb.os, hb.tape, hb.output, hb.size, fun i hi _ => hb.block i hi⟩ ?_
  cases v.ownBlock with
  | none => exact .inl rfl
  | some g => exact .inr (by simp)

theorem own_drewN {w : World} {base : Nat} {v : Value} {L : List ByteArray} (h : OwnStrs w base v L) (k : Nat) : OwnStrs (w.drewN k) base v L := h

end Go.Proofs.Ytcblinodfgdgfaa
