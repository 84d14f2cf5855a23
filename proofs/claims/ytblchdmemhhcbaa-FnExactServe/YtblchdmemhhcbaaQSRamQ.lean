/-
  A contract over the program's put: bytes laid into a memory of the call's own, round by round.
-/
import Derived.Test.YtblchdmemhhcbaaQSRamP
namespace Go.Proofs.Ytblchdmemhhcbaa
set_option linter.unusedVariables false
set_option linter.unusedSimpArgs false
open Go.RowKit

def lenOf : Value → Nat
  | .slice _ n _ => n
  | _ => 0

theorem RowB.grownBut {w w' : World} {g : Nat} {b : Option Addr} {R : List Nat} (h : RowB w b R) (hg : w.grownBy w' (some g)) (hne : 0 < R.length → ∀ a, b = some a → a.block ≠ g) : RowB w' b R := by
  refine ⟨h.1, fun h0 => ?_⟩
  obtain ⟨gx, ox, rfl, hlt, hc⟩ := h.2 h0
  have hb := hg.block gx hlt (by have := hne h0 _ rfl; simp at this; simpa using this)
  exact ⟨gx, ox, rfl, Nat.lt_of_lt_of_le hlt hg.size, fun i hi => (World.cell?_of_block (a := ⟨gx, ox + i, none⟩) hb).trans (hc i hi)⟩

theorem RowB.cut {w : World} {g o : Nat} {R : List Nat} (h : RowB w (some ⟨g, o, none⟩) R) (k : Nat) : RowB w (some ⟨g, o + k, none⟩) (R.drop k) := by
  have hd : ∀ i, i < (R.drop k).length → (R.drop k).getD i 0 = R.getD (k + i) 0 := fun i _ => by simp [List.getD]
  refine ⟨fun i hi => ?_, fun h0 => ?_⟩
  · rw [hd i hi]; rw [List.length_drop] at hi; exact h.1 _ (by omega)
  · rw [List.length_drop] at h0
    obtain ⟨g', o', e, hlt, hc⟩ := h.2 (by omega)
    simp only [Option.some.injEq, Addr.mk.injEq, and_true] at e
    obtain ⟨rfl, rfl⟩ := e
    refine ⟨g, o + k, rfl, hlt, fun i hi => ?_⟩
    rw [hd i hi]
    rw [List.length_drop] at hi
    rw [Nat.add_assoc]
    exact hc (k + i) (by omega)

theorem RowB.none (w : World) (b : Option Addr) : RowB w b [] := ⟨fun i hi => by simp at hi, fun h => by simp at h⟩

set_option maxRecDepth 100000 in
set_option maxHeartbeats 2000000 in
theorem put_any (g n c base addr : Nat) (M : List Nat) (b : Option Addr) (cx : Nat) (X : List Nat) (w : World) (ha : addr < 65536) (hn : ramN n = true) (hM : M.length = n) (hO : OwnB w base (.slice (some ⟨g, 0, none⟩) n c) M) (hX : RowB w b X) (hne : 0 < X.length → ∀ a, b = some a → a.block ≠ g) (hXl : X.length ≤ 1048576) (hcx : X.length ≤ cx) :
    Calls Try.prog 55 #[ramV (.slice (some ⟨g, 0, none⟩) n c), .int .u16 addr, .slice b X.length cx] w fun e w' => e = .returned (.tuple #[]) ∧ OwnB w' base (.slice (some ⟨g, 0, none⟩) n c) (fillAt n addr X 0 M) ∧ w.grownBy w' (some g) := by
  have hnn := ramN_pos hn
  have hdv := ramN_dvd hn
  have hnc : n ≤ c ∧ c ≤ maxLen ∧ g < w.heap.size := by
    rcases hO.2.2 with ⟨_, h0⟩ | ⟨g', cap, cur, hv, _, hg, h1, h2, _⟩
    · omega
    · simp only [Value.slice.injEq, Option.some.injEq, Addr.mk.injEq, and_true] at hv
      obtain ⟨rfl, _, rfl⟩ := hv
      exact ⟨by omega, h2, (Array.getElem?_eq_some_iff.1 hg).1⟩
  obtain ⟨hnc, hcm, hgl⟩ := hnc
  unfold maxLen at hcm
  have HP := fun w => place_any (some ⟨g, 0, none⟩) n c addr ha (by omega) w
  obtain ⟨p0, hp0⟩ : ∃ p, addr % n = p := ⟨_, rfl⟩
  have hp0l : p0 < n := by rw [← hp0]; exact Nat.mod_lt _ (by omega)
  rw [hp0] at HP
  have HP0 := Lib.hid hp0
  have HD := Lib.hid hdv
  clear hn hdv hp0
  have bx0 := BoxN.new w 34 #[.slice (some ⟨g, 0, none⟩) n c]
  have bx1 := bx0.below ((Below.refl _ _).alloc (Nat.le_refl _) (.cells #[.slice (some ⟨g, 0, none⟩) n c] 34))
  have B2 : Below w.heap.size w ((w.alloc (.cells #[.slice (some ⟨g, 0, none⟩) n c] 34)).alloc (.cells #[.slice (some ⟨g, 0, none⟩) n c] 34)) := ((Below.refl _ _).alloc (Nat.le_refl _) _).alloc (by simp) _
  have H0 := Lib.hid (And.intro (hO.below B2) (And.intro (hX.below B2) (And.intro bx1 B2)))
  clear bx0 bx1 B2 hO hX
  go_enter Try.func55, Try.ntmps55
  go_wp2_with fail
  refine (HP _).mono ?_
  rintro e w1 ⟨rfl, hw1⟩
  have H1 : Hid (OwnB w1 base (.slice (some ⟨g, 0, none⟩) n c) M ∧ RowB w1 b X ∧ BoxN w1 w.heap.size 34 #[.slice (some ⟨g, 0, none⟩) n c] ∧ Below w.heap.size w w1) := by rw [hw1]; exact H0
  clear hw1 H0
  go_wp2
  go_loopw [2, 6] (fun l q wr => ∃ (j p : Nat) (R M' : List Nat) (b' : Option Addr) (cb : Nat), l = .slice b' R.length cb ∧ q = .int .i64 p ∧ p < n ∧ R.length ≤ cb ∧ R.length ≤ 1048576 ∧ Hid (M'.length = n ∧ (0 < R.length → p = (addr + j) % 65536 % n) ∧ OwnB wr base (.slice (some ⟨g, 0, none⟩) n c) M' ∧ RowB wr b' R ∧ (0 < R.length → ∀ a, b' = some a → a.block ≠ g) ∧ BoxN wr w.heap.size 34 #[.slice (some ⟨g, 0, none⟩) n c] ∧ w.grownBy wr (some g) ∧ fillAt n addr R j M' = fillAt n addr X 0 M)) (fun l _ _ => lenOf l)
  case atStart => exact ⟨0, p0, X, M, b, cx, rfl, rfl, hp0l, hcx, hXl, Lib.hid ⟨hM, fun _ => by rw [Nat.add_zero, Nat.mod_eq_of_lt ha, HP0.out], H1.out.1, H1.out.2.1, hne, H1.out.2.2.1, grownBelow H1.out.2.2.2, rfl⟩⟩
  case round =>
    obtain ⟨j, p, R, M', b', cb, rfl, rfl, hp, hcb, hRl, HI⟩ := hrel
    obtain ⟨hM', hpp, hO', hR', hne', bx', gw', hF⟩ := HI.out
    by_cases hz : R.length = 0
    · obtain rfl : R = [] := List.eq_nil_of_length_eq_zero hz
      have HO' := Lib.hid hO'
      have HF := Lib.hid hF
      clear HI hM' hpp hO' hR' hne' bx' hF
      go_wp2
      first | go_end0 | (go_ret) | trace_state
      refine ⟨rfl, ?_, gw'⟩
      rw [← HF.out, fillAt]
      exact HO'.out
    · obtain ⟨k, hk⟩ : ∃ k, Nat.min R.length (n - p) = k := ⟨_, rfl⟩
      have hkr : k ≤ R.length := by rw [← hk]; exact Nat.min_le_left _ _
      have hkp : k ≤ n - p := by rw [← hk]; exact Nat.min_le_right _ _
      have hk0 : 0 < k := by rw [← hk]; exact Nat.lt_min.2 ⟨by omega, by omega⟩
      have hkw : k = R.length ∨ k = n - p := by rw [← hk]; unfold Nat.min; rcases Nat.le_total R.length (n - p) with q | q <;> simp [Nat.min_def] <;> omega
      obtain ⟨gx, ox, rfl, hgx, _⟩ := hR'.2 (by omega)
      have hc3 := bx'.cell 0 _ rfl
      have HK := Lib.hid hk
      have HO' := Lib.hid hO'
      have HR' := Lib.hid hR'
      have HB := Lib.hid bx'
      have HG := Lib.hid gw'
      have HPP := Lib.hid hpp
      have HF := Lib.hid hF
      have HM' := Lib.hid hM'
      have HKW := Lib.hid hkw
      clear HI hk hM' hpp hO' hR' bx' gw' hF hkw
      have i1 : (0 : Int) ≤ (p : Int) ∧ (p : Int) ≤ (n : Int) ∧ (n : Int) ≤ (c : Int) := by omega
      have i2 : (0 : Int) ≤ (k : Int) ∧ (k : Int) ≤ (R.length : Int) ∧ (R.length : Int) ≤ (cb : Int) := by omega
      have i3 : (0 : Int) < (R.length : Int) := by omega
      go_wp2_with (with_reducible refine wpList_copyB rfl (.tmp 17) (.tmp 18) rfl base g p n c (c - p) k cb (some ⟨gx, ox, none⟩) M' R rfl rfl HK.out.symm hk0 HM'.out (by omega) HO'.out HR'.out ?_)
      intro w2 HO2 hg2
      have HB2 := Lib.hid (show BoxN w2 w.heap.size 34 #[.slice (some ⟨g, 0, none⟩) n c] from (hg2.block w.heap.size HB.out.lt (by intro e; simp only [Option.some.injEq] at e; omega)).trans HB.out)
      have HR2 := Lib.hid (HR'.out.grownBut hg2 hne')
      have HG2 := Lib.hid (HG.out.trans hg2)
      clear hc3 HB HG HR' HO' hg2
      go_wp2
      have hgg : gx ≠ g := hne' (by omega) _ rfl
      go_roundw
      case rel =>
        refine ⟨j + k, 0, R.drop k, splice M' p (R.take k), _, cb - k, by rw [List.length_drop], rfl, by omega, by rw [List.length_drop]; omega, by rw [List.length_drop]; omega, Lib.hid ⟨?_, ?_, HO2.out, ?_, ?_, HB2.out, HG2.out, ?_⟩⟩
        · rw [length_splice _ _ _ (by rw [List.length_take, HM'.out]; omega)]; exact HM'.out
        · intro h0
          rw [List.length_drop] at h0
          have e1 : k = n - p := by rcases HKW.out with q | q; omega; exact q
          have e2 := HPP.out (by omega)
          rw [Nat.mod_mod_of_dvd _ HD.out] at e2 ⊢
          have e3 := Nat.div_add_mod (addr + j) n
          rw [show addr + (j + k) = n * ((addr + j) / n + 1) by rw [Nat.mul_add]; omega, Nat.mul_mod_right]
        · split
          · rw [List.drop_of_length_le (by omega)]; exact RowB.none _ _
          · exact HR2.out.cut k
        · intro _ a ea
          split at ea
          · simp only [Option.some.injEq] at ea; rw [← ea]; exact hgg
          · simp only [Option.some.injEq] at ea; rw [← ea]; exact hgg
        · rw [← HF.out, fillAt_splice n addr HD.out R k p j M' HM'.out (by omega) hkr (fun _ => HPP.out (by omega))]
      case measure => simp [lenOf]; omega

theorem put_zero (g n c base : Nat) (M : List Nat) (b : Option Addr) (cx : Nat) (X : List Nat) (w : World) (hn : ramN n = true) (hM : M.length = n) (hO : OwnB w base (.slice (some ⟨g, 0, none⟩) n c) M) (hX : RowB w b X) (hne : 0 < X.length → ∀ a, b = some a → a.block ≠ g) (hXl : X.length = n) (hcx : n ≤ cx) :
    Calls Try.prog 55 #[ramV (.slice (some ⟨g, 0, none⟩) n c), .int .u16 0, .slice b n cx] w fun e w' => e = .returned (.tuple #[]) ∧ OwnB w' base (.slice (some ⟨g, 0, none⟩) n c) X ∧ w.grownBy w' (some g) := by
  have hp := ramN_pos hn
  have h := put_any g n c base 0 M b cx X w (by omega) hn hM hO hX hne (by omega) (by omega)
  rw [fillAt_whole n (ramN_dvd hn) (by omega) X M hM hXl, hXl] at h
  exact h

end Go.Proofs.Ytblchdmemhhcbaa
