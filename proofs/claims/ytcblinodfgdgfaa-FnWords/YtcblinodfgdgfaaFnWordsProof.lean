/-
  For every code the law FnWords returns true: words with blanks between are those words again, and lines with newlines behind those lines. There are no conditions.
-/
import Derived.Test.YtcblinodfgdgfaaRows
import Derived.WalkKit
import Derived.ProofKit
import Derived.OpenShut
import Derived.ShutString
import Derived.ChangeOld
import Derived.Below
import Derived.Test.YtcblinodfgdgfaaJoinLaw
import Derived.Test.YtcblinodfgdgfaaSameT
import Derived.Test.YtcblinodfgdgfaaDrawStr
import Derived.Test.YtcblinodfgdgfaaCodeArg
namespace Go.Proofs.Ytcblinodfgdgfaa.fnWords
open Go.ChangeShapes Go.WideShapes Go.ChangeAt Go.RowKit
open Go.ChangeMaps (open_string shut_string)
set_option linter.unusedVariables false

theorem own : ownKnob Try.prog.godebug = none := by kernel_rfl
theorem laidOut : laidOutB Try.prog = true := by kernel_rfl

/-- WHAT THE WALK IS TOLD OF A SLICE OF INTEGERS THAT CAME IN: it is nil; or it leads to a row of 'cap' cells, the numbers 'zs' (the first 'len' are its elements, the rest its spare room), each fitting its kind. -/
def IsRow (k : IntKind) (w : World) (a : Option Addr) (len cap : Nat) (zs : List Int) : Prop :=
  (a = none ∧ len = 0 ∧ cap = 0 ∧ zs = []) ∨
  ∃ x, a = some x ∧ len ≤ cap ∧ cap ≤ maxLen ∧ zs.length = cap ∧ (∀ i, i < zs.length → w.cell? (x.add i) = some (.int k (zs.getD i 0))) ∧ ∀ n ∈ zs, (Lit.int k n).wf = true

theorem big_any (a : Option Addr) (len cap : Nat) (w : World) :
    Calls Try.prog 7 #[.slice a len cap] w fun e w' => e = .returned (.bool (decide ((1048576 : Int) < len))) ∧ w = w' := by
  go_enter Try.func7, Try.ntmps7
  go_wp2
  go_ret
  exact ⟨rfl, rfl⟩

theorem walk_big (a : Option Addr) (len cap : Nat) (w : World) (h : 1048576 < len) :
    Calls Try.prog 3 #[.slice a len cap] w fun e w' => e = .returned (.bool true) ∧ Below w.heap.size w w' := by
  have hbig : decide ((1048576 : Int) < len) = true := by simp; omega
  go_enter Try.func3, Try.ntmps3
  go_wp2_with fail
  refine (big_any _ _ _ _).mono ?_
  rintro e w' ⟨rfl, rfl⟩
  rw [hbig]
  clear hbig
  go_wp2
  go_ret
  exact ⟨rfl, Below.refl _ _⟩

set_option maxRecDepth 100000 in
set_option maxHeartbeats 1600000 in
theorem walk_all (a : Option Addr) (len cap : Nat) (z : List Int) (w : World) (hc : CodeRow w.heap.size w a len z) :
    Calls Try.prog 3 #[.slice a len cap] w fun e w' => e = .returned (.bool true) ∧ Below w.heap.size w w' := by
  have hl := hc.1
  have hbig : decide ((1048576 : Int) < len) = false := by simp; omega
  obtain ⟨D, HD⟩ : ∃ D, Hid (drawText wordsP 7 z len = D) := ⟨_, Lib.hid rfl⟩
  obtain ⟨T, HTt⟩ : ∃ T, Hid (drawText linesP 6 z len = T) := ⟨_, Lib.hid rfl⟩
  have hDs : D.size ≤ 200 := by rw [← HD.out]; exact drawText_size wordsP wordsP_small 7 (by omega) (by omega) z len
  have hTs : T.size ≤ 200 := by rw [← HTt.out]; exact drawText_size linesP linesP_small 6 (by omega) (by omega) z len
  obtain ⟨L, HL⟩ : ∃ L, Hid (wordsOf D.data.toList = L) := ⟨_, Lib.hid rfl⟩
  obtain ⟨M, HM⟩ : ∃ M, Hid (linesOf T.data.toList = M) := ⟨_, Lib.hid rfl⟩
  have hLs : (joinB 32 L).length ≤ 401 := by rw [← HL.out]; have := words_short D; omega
  have hMs : (joinB 10 M).length ≤ 201 := by rw [← HM.out]; have := lines_short T; omega
  have hLn : L.length ≤ 1048577 := by rw [← HL.out]; exact words_len D (by omega)
  have hMn : M.length ≤ 1048577 := by rw [← HM.out]; exact lines_len T (by omega)
  have HWJ := Lib.hid (show wordsOf (ByteArray.mk (joinB 32 L).toArray).data.toList = L by
    show wordsOf (joinB 32 L) = L
    rw [← HL.out]; exact words_joined _)
  have HLJ := Lib.hid (show joinB 10 M = T.data.toList ∨ (joinB 10 M = T.data.toList ++ [10] ∧ T.data.toList ≠ []) by rw [← HM.out]; exact lines_joined T)
  go_enter Try.func3, Try.ntmps3
  go_wp2_with fail
  refine (big_any _ _ _ _).mono ?_
  rintro e w' ⟨rfl, rfl⟩
  rw [hbig]
  clear hbig
  go_wp2_with fail
  refine (drawWords_any w.heap.size a len cap z w hc (Nat.le_refl _)).mono ?_
  rintro e w1 ⟨rfl, hb1⟩
  rw [HD.out]
  go_wp2_with fail
  refine (implWords_any D _ (by omega)).mono ?_
  rintro e w2 ⟨v1, rfl, ho1, hb2⟩
  rw [HL.out] at ho1
  have hb12 := hb1.trans (hb2.mono hb1.size)
  obtain ⟨x1, c1, rfl, hv1⟩ := own_view ho1
  have HV1 := Lib.hid hv1
  clear hv1
  go_wp2
  go_loop [4, 5] (fun t i => ∃ k : Nat, k ≤ L.length ∧ i = .int .i64 k ∧ t = .string ⟨(joinB 32 (L.take k)).toArray⟩) (fun _ i => L.length - (intOf i).toNat)
  case atStart => exact ⟨0, Nat.zero_le _, rfl, rfl⟩
  case round =>
    obtain ⟨k, hk, rfl, rfl⟩ := hrel
    have hjk := joinB_le 32 L k
    by_cases hp : k < L.length
    · obtain ⟨g, rfl, hg, hcell⟩ := HV1.out k hp
      have HJ := Lib.hid (joinB_take 32 L k hp)
      have hjk1 := joinB_le 32 L (k + 1)
      obtain ⟨X, HX⟩ : ∃ X, Hid (L.getD k ByteArray.empty = X) := ⟨_, Lib.hid rfl⟩
      rw [HX.out] at hcell
      have hxs : X.size ≤ 401 := by
        rw [HJ.out, HX.out] at hjk1
        simp only [List.length_append, List.length_cons, List.length_nil] at hjk1
        have : X.data.toList.length = X.size := Array.length_toList
        omega
      clear hjk1
      go_wp2
      go_round
      case rel => exact ⟨k + 1, by omega, by go_num, by rw [HJ.out, HX.out, ← step_join]⟩
      case measure => simp [intOf]; omega
    · obtain rfl : k = L.length := by omega
      rw [List.take_length] at *
      obtain ⟨J, HJJ⟩ : ∃ J, Hid (ByteArray.mk (joinB 32 L).toArray = J) := ⟨_, Lib.hid rfl⟩
      have hJs : J.size ≤ 401 := by rw [← HJJ.out]; show (joinB 32 L).toArray.size ≤ 401; simpa using hLs
      have HWJ2 := Lib.hid (show wordsOf J.data.toList = L by rw [← HJJ.out]; exact HWJ.out)
      rw [HJJ.out]
      clear hjk hp
      go_wp2_with fail
      refine (drawLines_any w.heap.size a len cap z w2 (hc.kept hb12) hb12.size).mono ?_
      rintro e w3 ⟨rfl, hb3⟩
      rw [HTt.out]
      have hb13 := hb12.trans (hb3.mono hb12.size)
      have ho13 := own_below ho1 hb3
      go_wp2_with fail
      refine (implLines_any T _ (by omega)).mono ?_
      rintro e w4 ⟨v2, rfl, ho2, hb4⟩
      rw [HM.out] at ho2
      have hb14 := hb13.trans (hb4.mono hb13.size)
      have ho14 := own_below ho13 hb4
      obtain ⟨x2, c2, rfl, hv2⟩ := own_view ho2
      have HV2 := Lib.hid hv2
      clear hv2 HV1
      go_wp2
      go_loop [8, 9] (fun t i => ∃ k : Nat, k ≤ M.length ∧ i = .int .i64 k ∧ t = .string ⟨(joinB 10 (M.take k)).toArray⟩) (fun _ i => M.length - (intOf i).toNat)
      case atStart => exact ⟨0, Nat.zero_le _, rfl, rfl⟩
      case round =>
        obtain ⟨k, hk, rfl, rfl⟩ := hrel
        have hjk := joinB_le 10 M k
        by_cases hp : k < M.length
        · obtain ⟨g, rfl, hg, hcell⟩ := HV2.out k hp
          have HJ := Lib.hid (joinB_take 10 M k hp)
          have hjk1 := joinB_le 10 M (k + 1)
          obtain ⟨X, HX⟩ : ∃ X, Hid (M.getD k ByteArray.empty = X) := ⟨_, Lib.hid rfl⟩
          rw [HX.out] at hcell
          have hxs : X.size ≤ 401 := by
            rw [HJ.out, HX.out] at hjk1
            simp only [List.length_append, List.length_cons, List.length_nil] at hjk1
            have : X.data.toList.length = X.size := Array.length_toList
            omega
          clear hjk1
          go_wp2
          go_round
          case rel => exact ⟨k + 1, by omega, by go_num, by rw [HJ.out, HX.out, ← step_join]⟩
          case measure => simp [intOf]; omega
        · obtain rfl : k = M.length := by omega
          rw [List.take_length] at *
          rcases HLJ.out with hX | ⟨hX, hT0⟩
          · have hXT : ByteArray.mk (joinB 10 M).toArray = T := by rw [hX]
            rw [hXT]
            clear hX hXT hp
            go_wp2_with fail
            refine (implWords_any J _ (by omega)).mono ?_
            rintro e w5 ⟨v3, rfl, ho3, hb5⟩
            rw [HWJ2.out] at ho3
            have hb15 := hb14.trans (hb5.mono hb14.size)
            have ho15 := own_below ho14 hb5
            go_wp2_with fail
            refine (sameTexts_true _ _ _ _ L _ (by omega) ho3 ho15).mono ?_
            rintro e w6 ⟨rfl, k6, rfl⟩
            have hb16 := below_drewN hb15 k6
            go_wp2_with fail
            refine (drawWords_any w.heap.size a len cap z (w5.drewN k6) (hc.kept hb16) hb16.size).mono ?_
            rintro e w7 ⟨rfl, hb7⟩
            rw [HD.out]
            have hb17 := hb16.trans (hb7.mono hb16.size)
            have ho17 := own_below (own_drewN ho15 k6) hb7
            go_wp2_with fail
            refine (specWords_any D _ (by omega)).mono ?_
            rintro e w8 ⟨v4, rfl, ho4, hb8⟩
            rw [HL.out] at ho4
            have hb18 := hb17.trans (hb8.mono hb17.size)
            have ho18 := own_below ho17 hb8
            go_wp2_with fail
            refine (sameTexts_true _ _ _ _ L _ (by omega) ho18 ho4).mono ?_
            rintro e w9 ⟨rfl, k9, rfl⟩
            go_wp2
            go_ret
            exact ⟨by simp, below_drewN hb18 k9⟩
          · have hXT : ByteArray.mk (joinB 10 M).toArray = T ++ ByteArray.mk #[10] := by
              rw [hX]; exact (ByteArray.mk_append_mk T.data.toList [10]).symm
            rw [hXT]
            have hTl : T.toList = T.data.toList := ByteArray.toList_eq T
            have hT1 : ¬ T.toList = [] := by rw [hTl]; exact hT0
            have hT2 : T.toList.isEmpty = false := by
              cases hq : T.toList with
              | nil => exact absurd hq hT1
              | cons _ _ => rfl
            have hT3 : ((T ++ ByteArray.mk #[10]).toList == T.toList) = false := by
              rw [beq_eq_false_iff_ne, ByteArray.toList_eq, ByteArray.toList_eq]
              intro e
              have := congrArg List.length e
              simp [ByteArray.data_append] at this
            clear hX hXT hp hTl hT0
            go_wp2_with fail
            refine (implWords_any J _ (by omega)).mono ?_
            rintro e w5 ⟨v3, rfl, ho3, hb5⟩
            rw [HWJ2.out] at ho3
            have hb15 := hb14.trans (hb5.mono hb14.size)
            have ho15 := own_below ho14 hb5
            go_wp2_with fail
            refine (sameTexts_true _ _ _ _ L _ (by omega) ho3 ho15).mono ?_
            rintro e w6 ⟨rfl, k6, rfl⟩
            have hb16 := below_drewN hb15 k6
            go_wp2_with fail
            refine (drawWords_any w.heap.size a len cap z (w5.drewN k6) (hc.kept hb16) hb16.size).mono ?_
            rintro e w7 ⟨rfl, hb7⟩
            rw [HD.out]
            have hb17 := hb16.trans (hb7.mono hb16.size)
            have ho17 := own_below (own_drewN ho15 k6) hb7
            go_wp2_with fail
            refine (specWords_any D _ (by omega)).mono ?_
            rintro e w8 ⟨v4, rfl, ho4, hb8⟩
            rw [HL.out] at ho4
            have hb18 := hb17.trans (hb8.mono hb17.size)
            have ho18 := own_below ho17 hb8
            go_wp2_with fail
            refine (sameTexts_true _ _ _ _ L _ (by omega) ho18 ho4).mono ?_
            rintro e w9 ⟨rfl, k9, rfl⟩
            go_wp2
            go_ret
            exact ⟨by simp, below_drewN hb18 k9⟩

theorem walk (a0 : Option Addr) (len0 cap0 : Nat) (z0 : List Int) (w : World) (w0 : IsRow .u8 w a0 len0 cap0 z0) :
    Calls Try.prog 3 #[.slice a0 len0 cap0] w fun e w' => e = .returned (.bool true) ∧ Below w.heap.size w w' := by
  by_cases hl : len0 ≤ 1048576
  · exact walk_all a0 len0 cap0 z0 w (code_of (show ByteRow w a0 len0 cap0 z0 from w0) hl)
  · exact walk_big a0 len0 cap0 w (by omega)

set_option maxRecDepth 100000 in
theorem lifted (os : Os) (started : os.Started) (H : Type) (enc : TypeId × Value → H) :
    ReturnsInHanded {} Try.checked os 3 .any (Rows.fnWordsSpec.pre6 enc Try.prog Try.f3 Rows.fnWordsRow.domain false) (Rows.fnWordsSpec.post enc Try.prog Try.f3 false true false false) := by
  refine returnsInHanded_of_change (C := Try.checked) own started (by kernel_rfl) Try.func3
    (ChangeSpec.witness6 (enc := enc) (C := Try.checked) false ⟨#[], #[.slice none 0 0], []⟩ 8 (by kernel_rfl) (by kernel_rfl) (by kernel_rfl) (by kernel_rfl)) ?_
  intro W base args ds gs before hval0 hW hcnd _
  have hval : ∀ (j : Nat) t v, Try.f3.params[j]? = some t → args[j]? = some v → Value.okWide Try.prog W .any base t v := hval0
  have hW' := hW
  obtain ⟨p, q, hA0, hV, rfl, hfz, hnd⟩ := hW
  have hA : DataW.TrodAll enc Try.prog W 0 (fun _ => true) true Try.f3.params.toList args.toList ds p := hA0
  rw [Try.params3] at hA hval
  obtain ⟨v0, vs0, d0, ds0, p0, q0, hargs, rfl, rfl, h0, r0⟩ := trodAll_cons hA
  obtain ⟨rfl, rfl, rfl⟩ := trodAll_nil r0
  obtain rfl : args = #[v0] := by cases args; simp_all
  obtain ⟨rfl, rfl⟩ := trodVars_none hV
  obtain ⟨a0, len0, cap0, rfl⟩ := okWide_slice Try.underlying22 (hval 0 22 v0 rfl rfl)
  have k0 := h0
  have lt0 : ∀ x ∈ p0, x.block < W.heap.size := by obtain ⟨m, hm⟩ := k0; exact DataW.trod_lt m _ _ _ hm
  obtain ⟨z0, w0⟩ : ∃ zs, IsRow .u8 W a0 len0 cap0 zs := by
    obtain ⟨fuel, hf⟩ := h0
    rcases open_ints Try.underlying22 Try.underlying5 (by kernel_rfl) hf with ⟨hcs, _⟩ | ⟨x, l, c, zs, hcs, _, hl, hm, hz, _, hcell, hwz⟩
    · simp [Value.cells] at hcs
      obtain ⟨rfl, rfl, rfl⟩ := hcs
      exact ⟨[], .inl ⟨rfl, rfl, rfl, rfl⟩⟩
    · simp [Value.cells] at hcs
      obtain ⟨rfl, rfl, rfl⟩ := hcs
      exact ⟨zs, .inr ⟨_, rfl, hl, hm, by simpa using hz, hcell, hwz⟩⟩
  clear hA0 hval0
  refine (walk a0 len0 cap0 z0 W w0).mono fun e W' ⟨he, bel⟩ => ?_
  subst he
  exact ⟨_, rfl, _, _, _, [], _, [], hW', trodAll_mk1 (shut_bool Try.underlying4 _), (trodAll_cons_mk (Below.trod laidOut (by kernel_rfl) (of_decide_eq_true (by kernel_rfl)) k0 bel lt0) trodAll_mk0), rfl, bel.frame _, fun h => by cases h⟩

theorem over : Rows.fnWordsRow.holds Try.pinned (OpenSpec.ofChange Rows.fnWordsSpec) :=
  OpenClaim.holds_of_wide 3 Try.f3 rfl rfl rfl rfl rfl rfl rfl ⟨rfl, rfl, rfl, rfl, rfl⟩ rfl rfl rfl rfl rfl (by kernel_rfl) Try.func3 (by kernel_rfl)
    (of_decide_eq_true (by kernel_rfl)) (by unfold Func.isWrapper; first | (rw [if_pos (by decide +kernel)]; kernel_rfl) | (rw [if_neg (by decide +kernel)]; exact ⟨rfl, rfl⟩))
    (fun os started H enc _ => lifted os started H enc)

theorem proved : Rows.FnWordsSaid := over
#print axioms proved
end Go.Proofs.Ytcblinodfgdgfaa.fnWords
