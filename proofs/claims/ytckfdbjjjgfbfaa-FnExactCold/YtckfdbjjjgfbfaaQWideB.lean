/-
  From a slice of bytes that came in, of whatever depth, to a row of bytes.
-/
import Derived.Test.YtckfdbjjjgfbfaaQWide
import Derived.Test.YtckfdbjjjgfbfaaQRowMore
namespace Go.Proofs.Ytckfdbjjjgfbfaa
set_option linter.unusedVariables false
set_option linter.unusedSimpArgs false
open Go.RowKit

theorem rowOfB {w : World} {a : Option Addr} {len cap : Nat} (h : RowOf [some .u8] w a len cap) : ∃ L : List Nat, L.length = len ∧ RowB w a L ∧ len ≤ cap ∧ cap ≤ maxLen := by
  rcases h with ⟨rfl, rfl, rfl⟩ | ⟨x, rfl, h1, h2, V, hV⟩
  · exact ⟨[], rfl, ⟨fun i hi => by simp at hi, fun h => by simp at h⟩, Nat.le_refl _, by unfold maxLen; omega⟩
  · have hone : ∀ i, i < len → ∃ n : Nat, n < 256 ∧ w.cell? (x.add i) = some (.int .u8 (n : Int)) := fun i hi => by
      obtain ⟨f, hc⟩ := hV i hi
      obtain ⟨v, r, hv, ⟨n, rfl, hw⟩, _⟩ := fits_cons f
      have hb := bounds_u8 hw
      have := hc 0 (by simp)
      rw [hv] at this
      refine ⟨n.toNat, by omega, ?_⟩
      rw [show ((n.toNat : Nat) : Int) = n by omega]
      simpa using this
    obtain ⟨f, hf⟩ := Deep.choose_lt hone
    have hgd : ∀ i, i < len → ((List.range len).map f).getD i 0 = f i := fun i hi => by simp [List.getD, hi]
    refine ⟨(List.range len).map f, by simp, ⟨fun i hi => ?_, fun h0 => ?_⟩, h1, h2⟩
    · have hi' : i < len := by simpa using hi
      rw [hgd i hi']; exact (hf i hi').1
    · have h0' : 0 < len := by simpa using h0
      obtain ⟨b, off, spot⟩ := x
      have hc := (hf 0 h0').2
      have hspot : spot = none := by simpa [Addr.add] using World.cell?_spot hc
      subst hspot
      have hadd : ∀ i, (⟨b, off, none⟩ : Addr).add i = ⟨b, off + i, none⟩ := fun i => by unfold Addr.add; split <;> simp_all
      refine ⟨b, off, rfl, World.block_lt_of_cell? w _ (by rw [hadd] at hc; exact hc), fun i hi => ?_⟩
      have hi' : i < len := by simpa using hi
      have hci := (hf i hi').2
      rw [hadd] at hci
      rw [hci, hgd i hi', u8V]

end Go.Proofs.Ytckfdbjjjgfbfaa
