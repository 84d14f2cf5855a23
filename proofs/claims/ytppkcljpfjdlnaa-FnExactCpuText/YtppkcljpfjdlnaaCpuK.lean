/-
  Contracts over the program: the reader's next word, and its flags.
-/
import Derived.Test.YtppkcljpfjdlnaaCpuJ
namespace Go.Proofs.Ytppkcljpfjdlnaa
set_option linter.unusedVariables false
set_option linter.unusedSimpArgs false
open Go.RowKit

set_option maxRecDepth 100000 in
theorem nextWord_any (B : Nat) (cs : Array Value) (s : ByteArray) (hs : s.size ≤ 1048576) (w : World) (hb : BoxN w B 77 cs) (h11 : cs[11]? = some (.string s)) :
    Calls Try.prog 56 #[.pointer (some ⟨B, 0, none⟩)] w fun e w' => e = .returned (.int .u16 (wordS s : Int)) ∧ BoxN w' B 77 (cs.setIfInBounds 11 (.string (restS s))) ∧ Span B (B + 1) w w' := by
  have HN := nextDigits_any B cs s hs w hb h11
  have HR := fun w => implReadHex_any (digsS s) 4 w (Nat.le_trans (Nat.le_trans (cutB_le _ 61) (Nat.le_trans (cutA_le s 32) hs)) (by unfold maxLen; omega))
  obtain ⟨x, hx⟩ : ∃ x, rhex (digsS s) 4 = x := ⟨_, rfl⟩
  have hw : IntKind.u16.wrap x = (wordS s : Int) := by rw [show IntKind.u16.wrap x = x % 65536 by simp [IntKind.wrap, IntKind.bits, IntKind.signed], wordS, hx]; omega
  rw [hx] at HR
  clear hx
  obtain ⟨D, hD⟩ : ∃ D, digsS s = D := ⟨_, rfl⟩
  rw [hD] at HN HR
  clear hD
  obtain ⟨y, hy⟩ : ∃ y, wordS s = y := ⟨_, rfl⟩
  rw [hy] at hw ⊢
  clear hy
  go_enter Try.func56, Try.ntmps56
  go_wp2_with fail
  refine HN.mono ?_
  rintro e w1 ⟨rfl, b1, s1⟩
  go_wp2_with fail
  refine (HR _).mono ?_
  rintro e w2 ⟨rfl, h2⟩
  have d2 : Below w1.heap.size w1 w2 := by
    rcases h2 with rfl | ⟨p, rfl⟩
    · exact Below.refl _ _
    · exact (Below.refl _ _).alloc (Nat.le_refl _) _
  clear h2
  go_wp2
  go_ret
  exact ⟨rfl, b1.below d2, s1.trans (Span.of_below _ _ d2)⟩

/-- Whether a sign stands in a text. -/
def hasS (s : ByteArray) (c : UInt8) : Bool := decide (signAt s.data.toList c < s.data.toList.length)

theorem index_any (s : ByteArray) (c : UInt8) (w : World) :
    Calls Try.prog 87 #[.string s, .string ⟨#[c]⟩] w fun e w' => e = .returned (.int .i64 (Lib.indexByte s.data.toList c)) ∧ w' = w := by
  go_enter Try.func87, Try.ntmps87
  go_wp2_with fail
  refine (Try.stringslite_Index_one s c _).mono ?_
  rintro e w' ⟨rfl, rfl⟩
  go_wp2
  go_ret
  exact ⟨rfl, rfl⟩

theorem contains_any (s : ByteArray) (c : UInt8) (w : World) :
    Calls Try.prog 75 #[.string s, .string ⟨#[c]⟩] w fun e w' => e = .returned (.bool (hasS s c)) ∧ w' = w := by
  have HI := fun w => index_any s c w
  have hi := index_sign s.data.toList c
  unfold hasS
  by_cases hk : signAt s.data.toList c < s.data.toList.length
  · rw [if_pos hk] at hi
    rw [hi] at HI
    rw [decide_eq_true hk]
    clear hi hk
    generalize signAt s.data.toList c = k at HI
    go_enter Try.func75, Try.ntmps75
    go_wp2_with fail
    refine (HI _).mono ?_
    rintro e w' ⟨rfl, rfl⟩
    go_wp2
    go_ret
    exact ⟨rfl, rfl⟩
  · rw [if_neg hk] at hi
    rw [hi] at HI
    rw [decide_eq_false hk]
    clear hi hk
    go_enter Try.func75, Try.ntmps75
    go_wp2_with fail
    refine (HI _).mono ?_
    rintro e w' ⟨rfl, rfl⟩
    go_wp2
    go_ret
    exact ⟨rfl, rfl⟩

set_option maxRecDepth 100000 in
set_option maxHeartbeats 2000000 in
theorem lastFlags_by (B : Nat) (cs : Array Value) (s : ByteArray) (n v d i z c : Bool) (w : World) (hb : BoxN w B 77 cs) (h11 : cs[11]? = some (.string s))
    (H1 : ∀ w, Calls Try.prog 75 #[.string s, .string ⟨#[78]⟩] w fun e w' => e = .returned (.bool n) ∧ w' = w)
    (H2 : ∀ w, Calls Try.prog 75 #[.string s, .string ⟨#[86]⟩] w fun e w' => e = .returned (.bool v) ∧ w' = w)
    (H3 : ∀ w, Calls Try.prog 75 #[.string s, .string ⟨#[68]⟩] w fun e w' => e = .returned (.bool d) ∧ w' = w)
    (H4 : ∀ w, Calls Try.prog 75 #[.string s, .string ⟨#[73]⟩] w fun e w' => e = .returned (.bool i) ∧ w' = w)
    (H5 : ∀ w, Calls Try.prog 75 #[.string s, .string ⟨#[90]⟩] w fun e w' => e = .returned (.bool z) ∧ w' = w)
    (H6 : ∀ w, Calls Try.prog 75 #[.string s, .string ⟨#[67]⟩] w fun e w' => e = .returned (.bool c) ∧ w' = w) :
    Calls Try.prog 57 #[.pointer (some ⟨B, 0, none⟩)] w fun e w' => e = .returned (.agg #[.bool n, .bool v, .bool d, .bool i, .bool z, .bool c]) ∧ Below w.heap.size w w' := by
  have hB := hb.lt
  have b1 := hb.below ((Below.refl _ _).alloc (Nat.le_refl _) (.cells #[.bool false, .bool false, .bool false, .bool false, .bool false, .bool false] 37))
  have c11 : (w.alloc (.cells #[.bool false, .bool false, .bool false, .bool false, .bool false, .bool false] 37)).drew.cell? ⟨B, 11, none⟩ = some (.string s) := b1.cell 11 _ h11
  have b2 := hb.below ((Below.refl _ _).alloc (Nat.le_refl _) (.cells #[.bool n, .bool v, .bool d, .bool i, .bool z, .bool c] 37))
  have c12 : (w.alloc (.cells #[.bool n, .bool v, .bool d, .bool i, .bool z, .bool c] 37)).drew.cell? ⟨B, 11, none⟩ = some (.string s) := b2.cell 11 _ h11
  clear b1 b2
  go_enter Try.func57, Try.ntmps57
  go_wp2_with fail
  go_region_held3 (fun w' => w'.cell? ⟨B, 11, none⟩ = some (.string s))
    (((try dsimp only); (first | (with_reducible exact c11) | (with_reducible exact c12))))
    (first | (go_at_call 75; (with_reducible refine (H1 _).mono ?_); rintro e w1 ⟨rfl, rfl⟩) | (go_at_call 75; (with_reducible refine (H2 _).mono ?_); rintro e w1 ⟨rfl, rfl⟩) | (go_at_call 75; (with_reducible refine (H3 _).mono ?_); rintro e w1 ⟨rfl, rfl⟩) | (go_at_call 75; (with_reducible refine (H4 _).mono ?_); rintro e w1 ⟨rfl, rfl⟩) | (go_at_call 75; (with_reducible refine (H5 _).mono ?_); rintro e w1 ⟨rfl, rfl⟩) | (go_at_call 75; (with_reducible refine (H6 _).mono ?_); rintro e w1 ⟨rfl, rfl⟩))
  all_goals go_wp2
  all_goals exact bodyPost_ret (v := .agg #[.bool n, .bool v, .bool d, .bool i, .bool z, .bool c]) (by simp [results, Try.results57, go_sem]) rfl ⟨rfl, ((Below.refl _ _).alloc (Nat.le_refl _) _).drew⟩

theorem lastFlags_any (B : Nat) (cs : Array Value) (s : ByteArray) (w : World) (hb : BoxN w B 77 cs) (h11 : cs[11]? = some (.string s)) :
    Calls Try.prog 57 #[.pointer (some ⟨B, 0, none⟩)] w fun e w' => e = .returned (.agg #[.bool (hasS s 78), .bool (hasS s 86), .bool (hasS s 68), .bool (hasS s 73), .bool (hasS s 90), .bool (hasS s 67)]) ∧ Below w.heap.size w w' :=
  lastFlags_by B cs s _ _ _ _ _ _ w hb h11 (fun w => contains_any s 78 w) (fun w => contains_any s 86 w) (fun w => contains_any s 68 w) (fun w => contains_any s 73 w) (fun w => contains_any s 90 w) (fun w => contains_any s 67 w)

end Go.Proofs.Ytppkcljpfjdlnaa
