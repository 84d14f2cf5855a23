/-
  Contracts over the program: the reader of a processor's text, word by word.
-/
import Derived.Test.YtppkcljpfjdlnaaCutOne
import Derived.Test.YtppkcljpfjdlnaaCpuI
import Derived.Test.YtppkcljpfjdlnaaCpuC
namespace Go.Proofs.Ytppkcljpfjdlnaa
set_option linter.unusedVariables false
set_option linter.unusedSimpArgs false
open Go.RowKit

/-- The digits of the next word, and what is left behind it. -/
def digsS (s : ByteArray) : ByteArray := cutB (cutA s 32) 61
def restS (s : ByteArray) : ByteArray := cutB s 32

theorem cutA_le (s : ByteArray) (c : UInt8) : (cutA s c).size ≤ s.size := by
  have hl : s.data.toList.length = s.size := Array.length_toList
  rw [cutA, strOf_size, List.length_take]; omega
theorem cutB_le (s : ByteArray) (c : UInt8) : (cutB s c).size ≤ s.size := by
  have hl : s.data.toList.length = s.size := Array.length_toList
  rw [cutB, strOf_size, List.length_drop]; omega

/-- The number of two (four) digits as a byte (a word), whatever the digits are. -/
def byteS (s : ByteArray) : Nat := (rhex (digsS s) 2 % 256).toNat
def wordS (s : ByteArray) : Nat := (rhex (digsS s) 4 % 65536).toNat
theorem byteS_lt (s : ByteArray) : byteS s < 256 := by unfold byteS; omega
theorem wordS_lt (s : ByteArray) : wordS s < 65536 := by unfold wordS; omega

theorem Span.drewN {lo hi : Nat} {w w' : World} (h : Span lo hi w w') (n : Nat) : Span lo hi w (w'.drewN n) :=
  h.trans (Span.of_below lo hi (below_drewN (Below.refl _ _) n))

theorem boxN_drewN {W : World} {B : Nat} {t : TypeId} {cs : Array Value} (h : BoxN W B t cs) (n : Nat) : BoxN (W.drewN n) B t cs := h.below (below_drewN (Below.refl _ _) n)

set_option maxRecDepth 100000 in
theorem nextDigits_any (B : Nat) (cs : Array Value) (s : ByteArray) (hs : s.size ≤ 1048576) (w : World) (hb : BoxN w B 77 cs) (h11 : cs[11]? = some (.string s)) :
    Calls Try.prog 74 #[.pointer (some ⟨B, 0, none⟩)] w fun e w' => e = .returned (.string (digsS s)) ∧ BoxN w' B 77 (cs.setIfInBounds 11 (.string (restS s))) ∧ Span B (B + 1) w w' := by
  unfold digsS restS
  have HC := fun w => cut_any s 32 hs w
  have HD := fun w => cut_any (cutA s 32) 61 (Nat.le_trans (cutA_le s 32) hs) w
  obtain ⟨a, ha⟩ : ∃ a, cutA s 32 = a := ⟨_, rfl⟩
  obtain ⟨r, hr⟩ : ∃ r, cutB s 32 = r := ⟨_, rfl⟩
  rw [ha] at HC HD ⊢
  rw [hr] at HC ⊢
  obtain ⟨a1, ha1⟩ : ∃ a1, cutA a 61 = a1 := ⟨_, rfl⟩
  obtain ⟨d, hd⟩ : ∃ d, cutB a 61 = d := ⟨_, rfl⟩
  rw [hd, ha1] at HD
  rw [hd]
  clear ha hr hd ha1
  have c11 := hb.cell 11 _ h11
  go_enter Try.func74, Try.ntmps74
  go_wp2_with fail
  refine (HC _).mono ?_
  rintro e w1 ⟨ok1, rfl, n1, rfl⟩
  have b1 := boxN_drewN hb n1
  have c12 := b1.cell 11 _ h11
  have f12 := b1.frozen 11
  have s1 : Span B (B + 1) w ((w.drewN n1).setCell ⟨B, 11, none⟩ (.string r)) := (Span.of_below B (B + 1) (below_drewN (Below.refl _ _) n1)).trans (Span.set _ _ _ _)
  have b2 := b1.set 11 (.string r)
  go_wp2_with fail
  refine (HD _).mono ?_
  rintro e w2 ⟨ok2, rfl, n2, rfl⟩
  go_wp2
  go_ret
  exact ⟨rfl, boxN_drewN b2 n2, s1.drewN n2⟩

set_option maxRecDepth 100000 in
theorem nextByte_any (B : Nat) (cs : Array Value) (s : ByteArray) (hs : s.size ≤ 1048576) (w : World) (hb : BoxN w B 77 cs) (h11 : cs[11]? = some (.string s)) :
    Calls Try.prog 55 #[.pointer (some ⟨B, 0, none⟩)] w fun e w' => e = .returned (.int .u8 (byteS s : Int)) ∧ BoxN w' B 77 (cs.setIfInBounds 11 (.string (restS s))) ∧ Span B (B + 1) w w' := by
  have HN := nextDigits_any B cs s hs w hb h11
  have HR := fun w => implReadHex_any (digsS s) 2 w (Nat.le_trans (Nat.le_trans (cutB_le _ 61) (Nat.le_trans (cutA_le s 32) hs)) (by unfold maxLen; omega))
  obtain ⟨x, hx⟩ : ∃ x, rhex (digsS s) 2 = x := ⟨_, rfl⟩
  have hw : IntKind.u8.wrap x = (byteS s : Int) := by rw [show IntKind.u8.wrap x = x % 256 by simp [IntKind.wrap, IntKind.bits, IntKind.signed], byteS, hx]; omega
  rw [hx] at HR
  clear hx
  obtain ⟨D, hD⟩ : ∃ D, digsS s = D := ⟨_, rfl⟩
  rw [hD] at HN HR
  clear hD
  obtain ⟨y, hy⟩ : ∃ y, byteS s = y := ⟨_, rfl⟩
  rw [hy] at hw ⊢
  clear hy
  go_enter Try.func55, Try.ntmps55
  go_wp2_with fail
  refine HN.mono ?_
  rintro e w1 ⟨rfl, b1, s1⟩
  go_wp2_with fail
  refine (HR _).mono ?_
  rintro e w2 ⟨rfl, h2⟩
  have d2 : Below w1.heap.size w1 w2 := by
    rcases h2 with rfl | ⟨p, rfl⟩
    · exact Below.refl _ _
    · exact (Below.refl _ _).alloc (Nat.le_refl _) _
  clear h2
  go_wp2
  go_ret
  exact ⟨rfl, b1.below d2, s1.trans (Span.of_below _ _ d2)⟩

end Go.Proofs.Ytppkcljpfjdlnaa
