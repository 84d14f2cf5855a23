/-
  The law FnCodes, walked over any program whose functions keep chapter 3's contracts.
-/
import Derived.Test.YtckfdbjjjgfbfaaUBoxPart
import Derived.Test.YtckfdbjjjgfbfaaUStepBack
import Derived.Test.YtckfdbjjjgfbfaaUAluNum
import Derived.Test.YtckfdbjjjgfbfaaUDrawAsm
import Derived.Deep.RegionHeld3
import Derived.Test.YtckfdbjjjgfbfaaUOpC
namespace Go.Proofs.Ytckfdbjjjgfbfaa
set_option linter.unusedVariables false
set_option linter.unusedSimpArgs false
open Go.RowKit

theorem upTo_take (S : List Int) (i : Int) (k : Nat) (hk : k < S.length) : upTo (S.take (k + 1)) i = upTo (S.take k) i + if S[k] ≤ i then 1 else 0 := by
  unfold upTo
  rw [List.take_add_one, List.getElem?_eq_getElem hk, List.filter_append, List.length_append]
  congr 1
  simp only [Option.toList_some, List.filter_cons, List.filter_nil]
  by_cases h : S[k] ≤ i
  · simp [h]
  · simp [h]

theorem upTo_take_le (S : List Int) (i : Int) (k : Nat) : upTo (S.take k) i ≤ S.length := Nat.le_trans (upTo_le _ _) (by rw [List.length_take]; omega)

set_option maxRecDepth 100000 in
theorem implUnitAt_any (c : CpuN) (m p : Value) (ta sa : Option Addr) (n2 c2 c3 : Nat) (S : List Int) (j : Bool) (i : Int) (w : World) (hn : n2 ≤ 1048576) (hS : S.length ≤ 1048576) (hi : (Lit.int .i64 i).wf = true) (hr : RowG encI w sa S) :
    Calls Try.prog 8 #[shotV c m (.slice ta n2 c2) (.slice sa S.length c3) p j, .int .i64 i] w fun e w' => e = .returned (.int .i64 (unitAtN S n2 i)) ∧ Below w.heap.size w w' := by
  have b0 := alw w (.cells (shotCells c m (.slice ta n2 c2) (.slice sa S.length c3) p j) 35)
  have p1 := BoxN.new w 35 (shotCells c m (.slice ta n2 c2) (.slice sa S.length c3) p j)
  have q12 := p1.cell 12 (.slice ta n2 c2) rfl
  have q13 := p1.cell 13 (.slice sa S.length c3) rfl
  clear p1
  by_cases h1 : i < 0
  · have e : unitAtN S n2 i = -1 := if_neg (by omega)
    rw [e]
    clear e
    go_enter Try.func8, Try.ntmps8
    go_wp2
    go_ret
    exact ⟨rfl, b0⟩
  · by_cases h2 : (n2 : Int) ≤ i
    · have e : unitAtN S n2 i = -1 := if_neg (by omega)
      rw [e]
      clear e
      go_enter Try.func8, Try.ntmps8
      go_wp2
      go_ret
      exact ⟨rfl, b0⟩
    · have e : unitAtN S n2 i = (upTo S i : Int) - 1 := if_pos (by omega)
      rw [e]
      have HR := Lib.hid (hr.below b0)
      have HB := Lib.hid b0
      obtain ⟨W, hW⟩ : ∃ W, w.alloc (.cells (shotCells c m (.slice ta n2 c2) (.slice sa S.length c3) p j) 35) = W := ⟨_, rfl⟩
      rw [hW] at HR HB q12 q13
      clear e b0 hr
      go_enter Try.func8, Try.ntmps8
      go_wp2
      go_loop [5, 7, 20] (fun u _ k => ∃ (kk : Nat) (U : Int), kk ≤ S.length ∧ k = .int .i64 kk ∧ u = .int .i64 U ∧ Hid (U = (upTo (S.take kk) i : Int) - 1) ∧ -1 ≤ U ∧ U ≤ 1048576) (fun _ _ k => S.length - (intOf k).toNat)
      case atStart => exact ⟨0, -1, Nat.zero_le _, rfl, rfl, Lib.hid (by simp [upTo]), by omega, by omega⟩
      case round =>
        obtain ⟨k, U, hk, rfl, rfl, HU, u1, u2⟩ := hrel
        by_cases hp : k < S.length
        · have hst := upTo_take S i k hp
          have hle := upTo_take_le S i (k + 1)
          have hrow := rowInt_at HR.out k hp
          obtain ⟨g, o, rfl, _, hc⟩ := hrow
          obtain ⟨x, hx⟩ : ∃ x, S[k] = x := ⟨_, rfl⟩
          rw [hx] at hst hc
          have ik : (0 : Int) ≤ (k : Int) ∧ (k : Int) < (S.length : Int) := by omega
          by_cases hxi : x ≤ i
          · rw [if_pos hxi] at hst
            have HN : Hid (U + 1 = (upTo (S.take (k + 1)) i : Int) - 1) := Lib.hid (by have := HU.out; omega)
            have ub : U + 1 ≤ 1048576 := by have := HN.out; omega
            clear hst hle hx
            go_wp2
            go_round
            case rel => exact ⟨k + 1, U + 1, by omega, by go_num, by go_num, HN, by omega, ub⟩
            case measure => simp [intOf]; omega
          · rw [if_neg hxi, Nat.add_zero] at hst
            have HN : Hid (U = (upTo (S.take (k + 1)) i : Int) - 1) := Lib.hid (by have := HU.out; omega)
            clear hst hle hx
            go_wp2
            go_round
            case rel => exact ⟨k + 1, U, by omega, by go_num, rfl, HN, u1, u2⟩
            case measure => simp [intOf]; omega
        · obtain rfl : k = S.length := by omega
          have hU := HU.out
          rw [List.take_length] at hU
          have HE := Lib.hid hU
          clear HU hU
          go_wp2
          go_ret
          exact ⟨by rw [HE.out]; rfl, HB.out⟩

end Go.Proofs.Ytckfdbjjjgfbfaa

namespace Go.Proofs.Ytckfdbjjjgfbfaa
set_option linter.unusedVariables false
set_option linter.unusedSimpArgs false
open Go.RowKit

theorem OwnB.cap {w : World} {base : Nat} {a : Option Addr} {n c : Nat} {L : List Nat} (h : OwnB w base (.slice a n c) L) : n ≤ c := by
  rcases h.2.2 with ⟨hv, _⟩ | ⟨g, cp, cur, hv, _, _, h1, _⟩
  · simp only [Value.slice.injEq] at hv; omega
  · simp only [Value.slice.injEq] at hv; omega

theorem RowB.take {w : World} {a : Option Addr} {L : List Nat} (h : RowB w a L) (k : Nat) (hk : k ≤ L.length) : RowB w a (L.take k) := by
  have hl : (L.take k).length = k := by simp; omega
  have hg : ∀ i, i < k → (L.take k).getD i 0 = L.getD i 0 := fun i hi => by simp [List.getD, List.getElem?_take, hi]
  refine ⟨fun i hi => ?_, fun h0 => ?_⟩
  · rw [hl] at hi; rw [hg i hi]; exact h.1 i (by omega)
  · rw [hl] at h0
    obtain ⟨g, o, rfl, hgl, hc⟩ := h.2 (by omega)
    refine ⟨g, o, rfl, hgl, fun i hi => ?_⟩
    rw [hl] at hi; rw [hg i hi]; exact hc i (by omega)

theorem RowB.grown {w w' : World} {a : Option Addr} {L : List Nat} {base B : Nat} {c : Nat} (h : OwnB w base (.slice a L.length c) L) (hg : w.grownBy w' (some B)) (hB : B < base) : RowB w' a L := (h.grown hg hB).row.2

end Go.Proofs.Ytckfdbjjjgfbfaa

namespace Go.Proofs.Ytckfdbjjjgfbfaa
set_option linter.unusedVariables false
set_option linter.unusedSimpArgs false
open Go.RowKit

theorem bigCode_any (a : Option Addr) (len cap : Nat) (w : World) :
    Calls Try.prog 6 #[.slice a len cap] w fun e w' => e = .returned (.bool (decide ((1048576 : Int) < len))) ∧ w = w' := by
  go_enter Try.func6, Try.ntmps6
  go_wp2
  go_ret
  exact ⟨rfl, rfl⟩

end Go.Proofs.Ytckfdbjjjgfbfaa
