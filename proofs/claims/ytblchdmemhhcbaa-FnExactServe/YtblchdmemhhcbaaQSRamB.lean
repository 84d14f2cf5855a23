/-
  Memories: contracts over the law's own helpers (alike, marked, held), and over the model's Peek, Poke and Fill.
-/
import Derived.Test.YtblchdmemhhcbaaQSRamA
import Derived.Deep.QuietTactic
import Derived.BigQuiet
namespace Go.Proofs.Ytblchdmemhhcbaa
set_option linter.unusedVariables false
set_option linter.unusedSimpArgs false
open Go.RowKit

theorem grownBelow {w w' : World} {row : Option Nat} (h : Below w.heap.size w w') : w.grownBy w' row := ⟨h.os, h.tape, h.output, h.size, fun i hi _ => h.block i hi⟩

set_option maxRecDepth 100000 in
theorem eqRam_true (a1 a2 : Option Addr) (c1 c2 : Nat) (L : List Nat) (w : World) (hl : L.length ≤ 9223372036854775806) (h1 : RowB w a1 L) (h2 : RowB w a2 L) :
    Calls Try.prog 11 #[ramV (.slice a1 L.length c1), ramV (.slice a2 L.length c2)] w fun e w' => e = .returned (.bool true) ∧ Below w.heap.size w w' := by
  have b1 : Below w.heap.size w ((w.alloc (.cells #[.slice a1 L.length c1] 34)).alloc (.cells #[.slice a2 L.length c2] 34)) := ((Below.refl _ _).alloc (Nat.le_refl _) _).alloc (by simp) _
  have r1 := h1.below b1
  have r2 := h2.below b1
  clear h1 h2
  go_enter Try.func11, Try.ntmps11
  go_wp2_with fail
  refine (eqB_true a1 a2 c1 c2 L _ hl r1 r2).mono ?_
  rintro e w' ⟨rfl, k, rfl⟩
  go_wp2
  go_ret
  exact ⟨rfl, below_drewN b1 k⟩

set_option maxRecDepth 100000 in
theorem markRam_any (g n cap k0 : Nat) (base : Nat) (L : List Nat) (w : World) (hn : n = L.length) (hb : k0 + n ≤ 9223372036854775806) (h : OwnB w base (.slice (some ⟨g, 0, none⟩) n cap) L) :
    Calls Try.prog 13 #[ramV (.slice (some ⟨g, 0, none⟩) n cap), .int .i64 k0] w fun e w' => e = .returned (.int .i64 (k0 + n : Nat)) ∧ OwnB w' base (.slice (some ⟨g, 0, none⟩) n cap) (marksB k0 n) ∧ w.grownBy w' (some g) := by
  subst hn
  have ho := h.below ((Below.refl _ _).alloc (Nat.le_refl _) (.cells #[.slice (some ⟨g, 0, none⟩) L.length cap] 34))
  clear h
  go_enter Try.func13, Try.ntmps13
  go_wp2_with fail
  refine (markB_any g L.length cap k0 base L _ rfl hb ho).mono ?_
  rintro e w' ⟨rfl, ho2, hg⟩
  go_wp2
  go_ret
  exact ⟨rfl, ho2, grownB_trans (grownBelow ((Below.refl _ _).alloc (Nat.le_refl _) _)) hg⟩

set_option maxRecDepth 100000 in
theorem markRam_empty (a : Option Addr) (cap : Nat) (k0 : Int) (w : World) :
    Calls Try.prog 13 #[ramV (.slice a 0 cap), .int .i64 k0] w fun e w' => e = .returned (.int .i64 k0) ∧ Below w.heap.size w w' := by
  go_enter Try.func13, Try.ntmps13
  go_wp2_with fail
  refine (markB_empty a cap k0 _).mono ?_
  rintro e w' ⟨rfl, rfl⟩
  go_wp2
  go_ret
  exact ⟨rfl, (Below.refl _ _).alloc (Nat.le_refl _) _⟩

set_option maxRecDepth 100000 in
theorem heldRam_any (a : Option Addr) (n cap k0 : Nat) (w : World) (hb : k0 + n ≤ 9223372036854775806) (h : RowB w a (marksB k0 n)) :
    Calls Try.prog 15 #[ramV (.slice a n cap), .int .i64 k0] w fun e w' => e = .returned (.int .i64 (k0 + n : Nat)) ∧ Below w.heap.size w w' := by
  have b1 : Below w.heap.size w (w.alloc (.cells #[.slice a n cap] 34)) := (Below.refl _ _).alloc (Nat.le_refl _) _
  have r1 := h.below b1
  clear h
  have hk : ¬ ((k0 + n : Nat) : Int) < 0 := by omega
  go_enter Try.func15, Try.ntmps15
  go_wp2_with fail
  refine (heldB_any a n cap k0 _ hb r1).mono ?_
  rintro e w' ⟨rfl, rfl⟩
  go_wp2
  go_ret
  exact ⟨rfl, b1⟩

/-- The byte at an address. -/
def peekL (L : List Nat) (addr : Nat) : Nat := if ramN L.length = true then L.getD (addr % L.length) 0 else 0

theorem idx_rem (addr n : Nat) (hn : 0 < n) : (addr : Int).tmod (n : Int) = ((addr % n : Nat) : Int) := by
  rw [Int.tmod_eq_emod_of_nonneg (by omega)]; omega

/-- A box stands as it stood behind a call. -/
theorem boxAt {w w1 : World} {B : Nat} {t : TypeId} {v : Value} (h : Boxed w B t v) (hb : Below w.heap.size w w1) : Boxed w1 B t v := (hb.block B h.lt).trans h

theorem rowCells {w : World} {g o : Nat} {L : List Nat} (h : RowB w (some ⟨g, o, none⟩) L) : ∀ j u, (L.map u8V)[j]? = some u → w.cell? ((⟨g, o, none⟩ : Addr).add j) = some u := by
  intro j u hu
  have hj : j < L.length := by
    rcases Nat.lt_or_ge j L.length with q | q
    · exact q
    · rw [List.getElem?_eq_none (by simpa using q)] at hu; cases hu
  obtain ⟨g', o', e, _, hc⟩ := h.2 (by omega)
  simp only [Option.some.injEq, Addr.mk.injEq, and_true] at e
  obtain ⟨rfl, rfl⟩ := e
  have hadd : (⟨g, o, none⟩ : Addr).add j = ⟨g, o + j, none⟩ := by unfold Addr.add; split <;> simp_all
  rw [hadd, hc j hj]
  rw [List.getElem?_map, List.getElem?_eq_getElem hj] at hu
  simp only [Option.map_some, Option.some.injEq] at hu
  rw [← hu]
  simp [List.getD, hj]

theorem grownB_set (w : World) (B : Nat) (v : Value) : w.grownBy (w.setCell ⟨B, 0, none⟩ v) (some B) := grownBy_setCell' w B v

theorem ownB_set {w : World} {base g n cap : Nat} {L : List Nat} {k x : Nat} (h : OwnB w base (.slice (some ⟨g, 0, none⟩) n cap) L) (hn : n = L.length) (hx : x < 256) :
    OwnB (w.setCell ⟨g, k, none⟩ (.int .u8 (x : Int))) base (.slice (some ⟨g, 0, none⟩) n cap) (L.set k x) ∧ w.grownBy (w.setCell ⟨g, k, none⟩ (.int .u8 (x : Int))) (some g) := by
  subst hn
  have hst := World.ownsRow.stored h.2 k (u8V x)
  refine ⟨⟨fun i hi => ?_, ?_⟩, hst.2⟩
  · rw [List.length_set] at hi
    by_cases hij : i = k
    · subst hij; simp only [List.getD, List.getElem?_set_self hi, Option.getD_some]; exact hx
    · simp only [List.getD, List.getElem?_set_ne (Ne.symm hij)]; exact h.1 i hi
  · rw [List.length_set, List.map_set]; exact hst.1

theorem ownB_cell {w : World} {base g n cap : Nat} {L : List Nat} {k : Nat} (h : OwnB w base (.slice (some ⟨g, 0, none⟩) n cap) L) (hk : k < L.length) : w.cell? ⟨g, k, none⟩ = some (.int .u8 (L.getD k 0 : Int)) ∧ w.frozen? ⟨g, k, none⟩ = false := by
  obtain ⟨_, hr⟩ := h.row
  obtain ⟨g', o', hgo, _, hc⟩ := hr.2 (by omega)
  simp only [Option.some.injEq, Addr.mk.injEq, and_true] at hgo
  obtain ⟨rfl, rfl⟩ := hgo
  have hcell := hc k hk
  rw [Nat.zero_add] at hcell
  obtain ⟨rfl, _⟩ := h.row
  exact ⟨hcell, World.ownsRow.frozenAt h.2 k⟩

/-- The memory with a list of bytes filled in, from its place i on. -/
def fillAt (n addr : Nat) : List Nat → Nat → List Nat → List Nat
  | [], _, M => M
  | x :: r, i, M => fillAt n addr r (i + 1) (M.set ((addr + i) % 65536 % n) x)

def fillL (L : List Nat) (addr : Nat) (X : List Nat) : List Nat := if ramN L.length = true ∧ X.length ≤ 1024 then fillAt L.length addr X 0 L else []

end Go.Proofs.Ytblchdmemhhcbaa
