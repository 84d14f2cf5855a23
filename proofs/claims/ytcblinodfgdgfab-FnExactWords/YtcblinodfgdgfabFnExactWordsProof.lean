/-
  For every text the law FnExactWords returns true: the program's Words answers as the model's does, leaves its argument alone, and its answer owns its memory. There are no conditions.
-/
import Derived.Test.YtcblinodfgdgfabRows
import Derived.WalkKit
import Derived.ProofKit
import Derived.OpenShut
import Derived.ShutString
import Derived.Test.YtcblinodfgdgfabMarks
import Derived.Test.YtcblinodfgdgfabImplCut
import Derived.Below
namespace Go.Proofs.Ytcblinodfgdgfab.fnExactWords
open Go.ChangeShapes Go.WideShapes Go.ChangeAt Go.RowKit
open Go.ChangeMaps (open_string shut_string)
set_option linter.unusedVariables false      -- a walk need not use every 'w<i>' (that an integer argument fits its kind)

theorem own : ownKnob Try.prog.godebug = none := by kernel_rfl

theorem own_below {w w' : World} {base : Nat} {v : Value} {L : List ByteArray} (h : OwnStrs w base v L) (hb : Below w.heap.size w w') : OwnStrs w' base v L := by
  refine World.ownsRow.kept h (row := none) ⟨hb.os, hb.tape, hb.output, hb.size, fun i hi _ => hb.block i hi⟩ ?_
  cases v.ownBlock with
  | none => exact .inl rfl
  | some g => exact .inr (by simp)

theorem own_drewN {w : World} {base : Nat} {v : Value} {L : List ByteArray} (h : OwnStrs w base v L) (k : Nat) : OwnStrs (w.drewN k) base v L := h

/-- No text: nothing is marked. -/
theorem walk_none (a0 : ByteArray) (w0 : a0.size ≤ 1048576) (w : World) (hL : (wordsOf a0.data.toList).length = 0) :
    Calls Try.prog 4 #[.string a0] w fun e w' => e = .returned (.bool true) ∧ Below w.heap.size w w' := by
  have HL := Lib.hid hL
  clear hL
  go_enter Try.func4, Try.ntmps4
  go_wp2_with fail
  refine (specWords_any _ _ w0).mono ?_
  rintro e w1 ⟨v1, rfl, ho1, hb1⟩
  go_wp2_with fail
  refine (implWords_any _ _ w0).mono ?_
  rintro e w2 ⟨v2, rfl, ho2, hb2⟩
  have ho1' := own_below ho1 hb2
  go_wp2_with fail
  refine (eqStr_true _ _ _ _ _ _ (by rw [HL.out]; omega) ho2 ho1').mono ?_
  rintro e w3 ⟨rfl, k3, rfl⟩
  obtain ⟨x2, c2, hv2⟩ := own_len ho2
  rw [HL.out] at hv2
  subst hv2
  go_wp2_with fail
  refine (mark_empty _ _ _ _).mono ?_
  rintro e w4 ⟨rfl, rfl⟩
  go_wp2_with fail
  refine (held_empty _ _ _ _).mono ?_
  rintro e w5 ⟨rfl, rfl⟩
  go_wp2_with fail
  refine (implWords_any _ _ w0).mono ?_
  rintro e w6 ⟨v6, rfl, ho6, hb6⟩
  have ho1'' := own_below (own_drewN ho1' k3) hb6
  go_wp2_with fail
  refine (eqStr_true _ _ _ _ _ _ (by rw [HL.out]; omega) ho6 ho1'').mono ?_
  rintro e w7 ⟨rfl, k7, rfl⟩
  go_wp2_with fail
  refine (held_empty _ _ _ _).mono ?_
  rintro e w8 ⟨rfl, rfl⟩
  go_wp2
  go_ret
  exact ⟨rfl, below_drewN (hb1.trans ((hb2.mono hb1.size).trans ((below_drewN (Below.refl _ _) k3).trans (hb6.mono (Nat.le_trans hb1.size hb2.size))))) k7⟩

/-- There are texts: they are marked, and the marks stay. -/
theorem walk_some (a0 : ByteArray) (w0 : a0.size ≤ 1048576) (w : World) (hL : 0 < (wordsOf a0.data.toList).length) (hM : (wordsOf a0.data.toList).length ≤ 1048577) :
    Calls Try.prog 4 #[.string a0] w fun e w' => e = .returned (.bool true) ∧ Below w.heap.size w w' := by
  obtain ⟨L, HL⟩ : ∃ L, Hid (wordsOf a0.data.toList = L) := ⟨_, Lib.hid rfl⟩
  rw [HL.out] at hL hM
  go_enter Try.func4, Try.ntmps4
  go_wp2_with fail
  refine (specWords_any _ _ w0).mono ?_
  rintro e w1 ⟨v1, rfl, ho1, hb1⟩
  rw [HL.out] at ho1
  go_wp2_with fail
  refine (implWords_any _ _ w0).mono ?_
  rintro e w2 ⟨v2, rfl, ho2, hb2⟩
  rw [HL.out] at ho2
  have ho1' := own_below ho1 hb2
  go_wp2_with fail
  refine (eqStr_true _ _ _ _ _ _ (by omega) ho2 ho1').mono ?_
  rintro e w3 ⟨rfl, k3, rfl⟩
  obtain ⟨g1, c1, cur1, hv1, hg1a, hg1b, _⟩ := own_cells ho1 hL
  subst hv1
  obtain ⟨g2, c2, cur2, hv2, hg2a, hg2b, hg2c, hg2d, hg2e, hg2f, hg2g⟩ := own_cells ho2 hL
  subst hv2
  go_wp2_with fail
  refine (mark_any g2 L.length c2 1 (w2.drewN k3) cur2 hg2d hg2f (by omega) (by omega) hg2c (fun i hi => ⟨_, (cell_of_block hg2c).symm.trans (hg2g i hi)⟩)).mono ?_
  rintro e w4 ⟨rfl, cur4, hg4, hs4, hm4, hgr4⟩
  have HG4 := Lib.hid hg4
  have HM4 := Lib.hid hm4
  clear hg4 hm4 hg2c hg2g
  go_wp2_with fail
  refine (held_any g2 L.length c2 1 _ cur4 hg2d (by omega) (by omega) HG4.out HM4.out).mono ?_
  rintro e w5 ⟨rfl, hb5⟩
  go_wp2_with fail
  refine (implWords_any _ _ w0).mono ?_
  rintro e w6 ⟨v6, rfl, ho6, hb6⟩
  rw [HL.out] at ho6
  have ho14 : OwnStrs w4 w.heap.size (.slice (some ⟨g1, 0, none⟩) L.length c1) L := World.ownsRow.kept (own_drewN ho1' k3) hgr4 (.inr (by simp [Value.ownBlock]; omega))
  have ho16 := own_below (own_below ho14 hb5) hb6
  go_wp2_with fail
  refine (eqStr_true _ _ _ _ _ _ (by omega) ho6 ho16).mono ?_
  rintro e w7 ⟨rfl, k7, rfl⟩
  have hg4lt := (Array.getElem?_eq_some_iff.1 HG4.out).1
  have HG6 := Lib.hid (show w6.heap[g2]? = some (.cells cur4 9 (0, 0)) from ((hb6.block g2 (Nat.lt_of_lt_of_le hg4lt hb5.size)).trans (hb5.block g2 hg4lt)).trans HG4.out)
  go_wp2_with fail
  refine (held_any g2 L.length c2 1 (w6.drewN k7) cur4 hg2d (by omega) (by omega) HG6.out HM4.out).mono ?_
  rintro e w8 ⟨rfl, hb8⟩
  go_wp2
  go_ret
  have hb14 : Below w.heap.size w w4 := ((below_drewN (hb1.trans (hb2.mono hb1.size)) k3)).grown hgr4 (Nat.le_trans hb1.size hb2.size) (fun j ej => by cases ej; have := hb1.size; omega)
  have hb16 : Below w.heap.size w w6 := (hb14.trans (hb5.mono hb14.size)).trans (hb6.mono (Nat.le_trans hb14.size hb5.size))
  exact ⟨rfl, (below_drewN hb16 k7).trans (hb8.mono hb16.size)⟩

theorem walk (a0 : ByteArray) (w0 : a0.size ≤ maxLen) (w : World) :
    Calls Try.prog 4 #[.string a0] w fun e w' => e = .returned (.bool true) ∧ Below w.heap.size w w' := by
  by_cases hbig : (1048576 : Int) < a0.size
  · unfold maxLen at w0
    go_enter Try.func4, Try.ntmps4
    go_wp2
    go_ret
    exact ⟨rfl, Below.refl _ _⟩
  · have hs : a0.size ≤ 1048576 := by omega
    by_cases hL : 0 < (wordsOf a0.data.toList).length
    · exact walk_some a0 hs w hL (words_len a0 hs)
    · exact walk_none a0 hs w (by omega)

set_option maxRecDepth 100000 in
theorem lifted (os : Os) (started : os.Started) (H : Type) (enc : TypeId × Value → H) :
    ReturnsInHanded {} Try.checked os 4 .any (Rows.fnExactWordsSpec.pre6 enc Try.prog Try.f4 Rows.fnExactWordsRow.domain false) (Rows.fnExactWordsSpec.post enc Try.prog Try.f4 false true false false) := by
  refine returnsInHanded_of_change (C := Try.checked) own started (by kernel_rfl) Try.func4
    (ChangeSpec.witness6 (enc := enc) (C := Try.checked) false ⟨#[], #[.string ByteArray.empty], []⟩ 8 (by kernel_rfl) (by kernel_rfl) (by kernel_rfl) (by kernel_rfl)) ?_
  intro W base args ds gs before hval0 hW hcnd _
  have hval : ∀ (j : Nat) t v, Try.f4.params[j]? = some t → args[j]? = some v → Value.okWide Try.prog W .any base t v := hval0
  have hW' := hW
  obtain ⟨p, q, hA0, hV, rfl, hfz, hnd⟩ := hW
  have hA : DataW.TrodAll enc Try.prog W 0 (fun _ => true) true Try.f4.params.toList args.toList ds p := hA0
  rw [Try.params4] at hA hval
  obtain ⟨v0, vs0, d0, ds0, p0, q0, hargs, rfl, rfl, h0, r0⟩ := trodAll_cons hA
  obtain ⟨rfl, rfl, rfl⟩ := trodAll_nil r0
  obtain rfl : args = #[v0] := by cases args; simp_all
  obtain ⟨rfl, rfl⟩ := trodVars_none hV
  obtain ⟨a0, rfl, rfl, rfl, w0⟩ := open_string Try.underlying9 (hval 0 9 v0 rfl rfl) h0
  clear hA0 hval0
  simp only [List.append_nil] at hW'
  refine (walk a0 w0 W).mono fun e W' ⟨he, bel⟩ => ?_
  subst he
  exact ⟨_, rfl, _, _, _, [], [], [], hW', (trodAll_cons_mk (shut_bool Try.underlying4 _) trodAll_mk0), (trodAll_cons_mk (shut_string Try.underlying9 w0) trodAll_mk0), rfl, bel.frame _, fun h => by cases h⟩

theorem over : Rows.fnExactWordsRow.holds Try.pinned (OpenSpec.ofChange Rows.fnExactWordsSpec) :=
  OpenClaim.holds_of_wide 4 Try.f4 rfl rfl rfl rfl rfl rfl rfl ⟨rfl, rfl, rfl, rfl, rfl⟩ rfl rfl rfl rfl rfl (by kernel_rfl) Try.func4 (by kernel_rfl)
    (of_decide_eq_true (by kernel_rfl)) (by unfold Func.isWrapper; first | (rw [if_pos (by decide +kernel)]; kernel_rfl) | (rw [if_neg (by decide +kernel)]; exact ⟨rfl, rfl⟩))
    (fun os started H enc _ => lifted os started H enc)

theorem proved : Rows.FnExactWordsSaid :=
  over
#print axioms proved
end Go.Proofs.Ytcblinodfgdgfab.fnExactWords
