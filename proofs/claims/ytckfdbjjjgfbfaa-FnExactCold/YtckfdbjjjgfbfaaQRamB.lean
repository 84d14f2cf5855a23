/-
  Memories: contracts over the law's own helpers (alike, marked, held), and over the model's Peek, Poke and Fill.
-/
import Derived.Test.YtckfdbjjjgfbfaaQRamA
import Derived.Deep.QuietTactic
import Derived.BigQuiet
namespace Go.Proofs.Ytckfdbjjjgfbfaa
set_option linter.unusedVariables false
set_option linter.unusedSimpArgs false
open Go.RowKit

set_option maxRecDepth 100000 in
theorem eqRam_true (a1 a2 : Option Addr) (c1 c2 : Nat) (L : List Nat) (w : World) (hl : L.length ≤ 9223372036854775806) (h1 : RowB w a1 L) (h2 : RowB w a2 L) :
    Calls Try.prog 14 #[ramV (.slice a1 L.length c1), ramV (.slice a2 L.length c2)] w fun e w' => e = .returned (.bool true) ∧ Below w.heap.size w w' := by
  have b1 : Below w.heap.size w ((w.alloc (.cells #[.slice a1 L.length c1] 30)).alloc (.cells #[.slice a2 L.length c2] 30)) := ((Below.refl _ _).alloc (Nat.le_refl _) _).alloc (by simp) _
  have r1 := h1.below b1
  have r2 := h2.below b1
  clear h1 h2
  go_enter Try.func14, Try.ntmps14
  go_wp2_with fail
  refine (eqB_true a1 a2 c1 c2 L _ hl r1 r2).mono ?_
  rintro e w' ⟨rfl, k, rfl⟩
  go_wp2
  go_ret
  exact ⟨rfl, below_drewN b1 k⟩

/-- The byte at an address. -/
def peekL (L : List Nat) (addr : Nat) : Nat := if ramN L.length = true then L.getD (addr % L.length) 0 else 0

theorem idx_rem (addr n : Nat) (hn : 0 < n) : (addr : Int).tmod (n : Int) = ((addr % n : Nat) : Int) := by
  rw [Int.tmod_eq_emod_of_nonneg (by omega)]; omega

set_option maxRecDepth 100000 in
theorem specPeek_any (a : Option Addr) (c addr : Nat) (L : List Nat) (ha : addr < 65536) (w : World) (hr : RowB w a L) :
    Calls Try.prog 27 #[ramV (.slice a L.length c), .int .u16 addr] w fun e w' => e = .returned (.int .u8 (peekL L addr)) ∧ Below w.heap.size w w' := by
  have HO := fun w => specOk_any a L.length c w
  cases h : ramN L.length with
  | false =>
    have e : peekL L addr = 0 := by unfold peekL; rw [h]; rfl
    rw [e]
    rw [h] at HO
    clear h e
    go_enter Try.func27, Try.ntmps27
    go_wp2_with fail
    refine (HO _).mono ?_
    rintro e w1 ⟨rfl, b1⟩
    have b2 := bstep ((Below.refl _ _).alloc (Nat.le_refl _) _) b1
    go_wp2
    go_ret
    exact ⟨rfl, b2⟩
  | true =>
    have hb := ramN_pos h
    obtain ⟨g, o, rfl, hg, hc⟩ := hr.2 (by omega)
    obtain ⟨k, hk⟩ : ∃ k, addr % L.length = k := ⟨_, rfl⟩
    have hkl : k < L.length := by rw [← hk]; exact Nat.mod_lt _ (by omega)
    have e : peekL L addr = L.getD k 0 := by unfold peekL; rw [if_pos h, hk]
    rw [e]
    have hck := hc k hkl
    obtain ⟨x, hx⟩ : ∃ x, L.getD k 0 = x := ⟨_, rfl⟩
    rw [hx] at hck ⊢
    have hx2 : x < 256 := by rw [← hx]; exact hr.1 k hkl
    rw [h] at HO
    have HK := Lib.hid (show (addr : Int).tmod (L.length : Int) = (k : Int) by rw [idx_rem _ _ (by omega), hk])
    have hck2 := (((Below.refl _ _).alloc (Nat.le_refl _) (.cells #[.slice (some ⟨g, o, none⟩) L.length c] 30)).cell (p := ⟨g, o + k, none⟩) hg).trans hck
    unfold u8V at hck2
    have hn0 : ((L.length : Int) == 0) = false := beq_eq_false_iff_ne.2 (by omega)
    have ik : (0 : Int) ≤ (k : Int) ∧ (k : Int) < (L.length : Int) := by omega
    clear h e hc hx hr hk hck
    go_enter Try.func27, Try.ntmps27
    go_wp2_with fail
    refine (HO _).mono ?_
    rintro e w1 ⟨rfl, b1⟩
    have hs1 : w.heap.size < w1.heap.size := Nat.lt_of_lt_of_le (by simp) b1.size
    have hcb : w1.cell? ⟨w.heap.size, 0, none⟩ = some (.slice (some ⟨g, o, none⟩) L.length c) := (b1.cell (p := ⟨w.heap.size, 0, none⟩) (by simp)).trans (by simp)
    have hcx := (b1.cell (p := ⟨g, o + k, none⟩) (by simp; omega)).trans hck2
    have b2 := bstep ((Below.refl _ _).alloc (Nat.le_refl _) _) b1
    have w1' : IntKind.i64.wrap (addr : Int) = (addr : Int) := IntWalk.i64_in _ (by omega)
    have w2' : (addr : Int).tmod (L.length : Int) = (k : Int) := HK.out
    have w3' : IntKind.i64.wrap (k : Int) = (k : Int) := IntWalk.i64_in _ (by omega)
    clear b1 hck2
    go_wp2_with fail
    go_quiet (fail)
    go_wp2
    go_ret
    exact ⟨rfl, below_drewN b2 _⟩

theorem ownB_set {w : World} {base g n cap : Nat} {L : List Nat} {k x : Nat} (h : OwnB w base (.slice (some ⟨g, 0, none⟩) n cap) L) (hn : n = L.length) (hx : x < 256) :
    OwnB (w.setCell ⟨g, k, none⟩ (.int .u8 (x : Int))) base (.slice (some ⟨g, 0, none⟩) n cap) (L.set k x) ∧ w.grownBy (w.setCell ⟨g, k, none⟩ (.int .u8 (x : Int))) (some g) := by
  subst hn
  have hst := World.ownsRow.stored h.2 k (u8V x)
  refine ⟨⟨fun i hi => ?_, ?_⟩, hst.2⟩
  · rw [List.length_set] at hi
    by_cases hij : i = k
    · subst hij; simp only [List.getD, List.getElem?_set_self hi, Option.getD_some]; exact hx
    · simp only [List.getD, List.getElem?_set_ne (Ne.symm hij)]; exact h.1 i hi
  · rw [List.length_set, List.map_set]; exact hst.1

theorem ownB_cell {w : World} {base g n cap : Nat} {L : List Nat} {k : Nat} (h : OwnB w base (.slice (some ⟨g, 0, none⟩) n cap) L) (hk : k < L.length) : w.cell? ⟨g, k, none⟩ = some (.int .u8 (L.getD k 0 : Int)) ∧ w.frozen? ⟨g, k, none⟩ = false := by
  obtain ⟨_, hr⟩ := h.row
  obtain ⟨g', o', hgo, _, hc⟩ := hr.2 (by omega)
  simp only [Option.some.injEq, Addr.mk.injEq, and_true] at hgo
  obtain ⟨rfl, rfl⟩ := hgo
  have hcell := hc k hk
  rw [Nat.zero_add] at hcell
  obtain ⟨rfl, _⟩ := h.row
  exact ⟨hcell, World.ownsRow.frozenAt h.2 k⟩

end Go.Proofs.Ytckfdbjjjgfbfaa
