/-
  Contracts over the program: the bytes of a text's line (impl.lineBytes).
-/
import Derived.Test.YtffhjoldiicgdaaShelf
import Derived.Test.YtffhjoldiicgdaaImplCut
import Derived.Test.YtffhjoldiicgdaaAsmP
import Derived.Test.YtffhjoldiicgdaaAsmF
namespace Go.Proofs.Ytffhjoldiicgdaa
set_option linter.unusedVariables false
set_option linter.unusedSimpArgs false
open Go.RowKit

theorem semi_cut (l : List UInt8) : l.take (signAt l 59) = l.takeWhile noSemi := by
  have h : l.takeWhile noSemi <+: l := List.takeWhile_prefix _
  exact (List.prefix_iff_eq_take.1 h).symm

theorem joinTail_eq : ∀ r : List (List UInt8), Lib.joinTail [32] r = joinR r
  | [] => rfl
  | x :: r => by
    have ih := joinTail_eq r
    unfold Lib.joinTail at ih ⊢
    simp only [List.map_cons, List.flatten_cons, joinR, ih]
    rfl

theorem join_eq (W : List (List UInt8)) : Lib.join W [32] = joinT W := by
  cases W with
  | nil => rfl
  | cons x r => rw [Lib.join_cons, joinTail_eq]; rfl

theorem join_any (W : List (List UInt8)) (v : Value) (base : Nat) (w : World) (h : OwnStrs w base v (W.map strOf)) (hW : wsum W ≤ 1048577) (hN : W.length ≤ 1048577) :
    Calls Try.prog 70 #[v, .string ⟨#[32]⟩] w fun e w' => e = .returned (.string (strOf (joinT W))) ∧ Below w.heap.size w w' := by
  obtain ⟨a, c, rfl, hc⟩ := strs_at h
  have hcap : W.length ≤ c ∨ W.length = 0 := by
    rcases h.2 with ⟨hv, h0⟩ | ⟨g, cap, cur, hv, hb, hg, h1, h2, h3, _⟩
    · exact .inr (by simpa using h0)
    · simp only [Value.slice.injEq] at hv
      obtain ⟨_, _, rfl⟩ := hv
      exact .inl (by simpa using h1)
  by_cases h0 : W.length = 0
  · obtain rfl : W = [] := List.length_eq_zero_iff.1 h0
    refine (Try.strings_Join_none a c ⟨#[32]⟩ w).mono ?_
    rintro e w' ⟨rfl, rfl⟩
    exact ⟨rfl, Below.refl _ _⟩
  · obtain ⟨g, rfl, hg, _, hcell⟩ := hc (by rw [List.length_map]; omega)
    have hm : (W.map strOf).map (fun x => x.data.toList) = W := by
      rw [List.map_map]
      conv => rhs; rw [← List.map_id W]
      apply List.map_congr_left
      intro x _
      simp [strOf]
    have hl := joinT_len W
    have hj := Try.strings_Join g 0 c (W.map strOf) ⟨#[32]⟩ w (fun j x hx => by
      have hjl : j < (W.map strOf).length := by
        rcases Nat.lt_or_ge j (W.map strOf).length with q | q
        · exact q
        · rw [List.getElem?_eq_none q] at hx; cases hx
      have := hcell j hjl
      rw [List.getD, hx] at this
      rw [Nat.zero_add]; exact this) hg (by rw [List.length_map]; omega) (by rw [List.length_map]; omega) (by rw [hm]; show (Lib.join W [32]).length ≤ _; rw [join_eq]; omega)
    rw [hm, show (⟨#[32]⟩ : ByteArray).data.toList = [32] from rfl, join_eq] at hj
    exact hj

theorem name_dot {x : Nat} (hx : x < 256) (h : opId x ≠ 0) : (opName x).data.toList.head? ≠ some 46 ∧ (opName x).data.toList ≠ [] := by
  have h' : ∀ k : Fin 57, k.1 ≠ 0 → (opTx k.1).data.toList.head? ≠ some 46 ∧ (opTx k.1).data.toList ≠ [] := by decide +kernel
  exact h' ⟨opId x, by have := opId_le hx; omega⟩ h

/-- No operation's text begins with a dot. -/
theorem read_dot {x : List UInt8} {pc : Nat} (h : x.head? = some 46) : readOp (strOf x) pc = none := by
  cases hr : readOp (strOf x) pc with
  | none => rfl
  | some l =>
    exfalso
    obtain ⟨x0, x1, x2, h0, h1, h2, hid, _, hs⟩ := show_read hr
    obtain ⟨m, hm13, hm, _⟩ := mode_nat h0 hid
    rw [show_text hm hm13] at hs
    have hl : (opName x0).data.toList ++ (mText m (tN m x1 x2 pc)).data.toList = x := by
      have := congrArg (fun b : ByteArray => b.data.toList) hs
      simpa [ByteArray.data_append, strOf] using this
    obtain ⟨n1, n2⟩ := name_dot h0 hid
    cases hn : (opName x0).data.toList with
    | nil => exact n2 hn
    | cons c r =>
      rw [hn] at n1 hl
      rw [← hl] at h
      exact n1 h

def dotB : List UInt8 := [46, 98, 121, 116, 101, 32, 36]

theorem pre_take {x : List UInt8} : Lib.hasPrefix x dotB = true ↔ x.take 7 = dotB := by
  unfold Lib.hasPrefix
  rw [List.isPrefixOf_iff_prefix, List.prefix_iff_eq_take]
  exact ⟨fun h => h.symm, fun h => h.symm⟩

theorem asm_pre {x : List UInt8} {pc : Nat} (h : Lib.hasPrefix x dotB = true) : asmLine x pc = if rhex (strOf (x.drop 7)) 2 < 0 then none else some [(rhex (strOf (x.drop 7)) 2).toNat] := by
  have ht := pre_take.1 h
  have hlen : 7 ≤ x.length := by
    have := congrArg List.length ht
    simp [dotB] at this; omega
  have hd : x.head? = some 46 := by
    cases x with
    | nil => simp at hlen
    | cons c r => simp [dotB] at ht; simp [ht.1]
  have hz : (strOf (x.drop 7)).size = x.length - 7 := by rw [strOf_size, List.length_drop]
  unfold asmLine
  cases hb : byteLine x with
  | some b =>
    obtain ⟨_, _, h3, _⟩ := byteLine_some hb
    rw [h3, if_neg (by omega)]
    simp
  | none =>
    simp only
    rw [read_dot hd]
    rw [if_pos]
    by_cases h9 : x.length = 9
    · rw [rhex_yes _ _ ⟨by omega, by omega, by rw [hz, h9]; rfl⟩]
      unfold byteLine at hb
      by_cases hr : 0 ≤ rd 16 (x.drop 7) 0
      · rw [if_pos ⟨h9, ht, hr⟩] at hb; cases hb
      · have e : (strOf (x.drop 7)).data.toList = x.drop 7 := by simp [strOf]
        rw [e]; omega
    · rw [rhex_no _ _ (by rw [hz]; omega)]; omega

theorem asm_nopre {x : List UInt8} {pc : Nat} (h : Lib.hasPrefix x dotB = false) : asmLine x pc = readOp (strOf x) pc := by
  unfold asmLine
  cases hb : byteLine x with
  | some b =>
    obtain ⟨_, h2, _, _⟩ := byteLine_some hb
    rw [pre_take.2 h2] at h; cases h
  | none => rfl

theorem rhex_range (s : ByteArray) : rhex s 2 < 256 := by
  by_cases h : 1 ≤ (2 : Int) ∧ (2 : Int) ≤ 8 ∧ (s.size : Int) = 2
  · rw [rhex_yes _ _ h]
    by_cases h0 : 0 ≤ rd 16 s.data.toList 0
    · exact rd_small _ (by rw [show s.data.toList.length = s.size from Array.length_toList]; omega) h0
    · omega
  · rw [rhex_no _ _ h]; omega

theorem iterBelow {w w' : World} {s : ByteArray} (h : w = w' ∨ ∃ p, w' = w.iter s p) : Below w.heap.size w w' := by
  rcases h with rfl | ⟨p, rfl⟩
  · exact Below.refl _ _
  · exact (Below.refl _ _).alloc (Nat.le_refl _) _

set_option maxRecDepth 100000 in
set_option maxHeartbeats 4000000 in
theorem lineBytes_any (s : ByteArray) (pc : Nat) (hs : s.size ≤ 1048575) (hp : pc < 65536) (w : World) :
    Calls Try.prog 45 #[.string s, .int .u16 pc] w fun e w' => Below w.heap.size w w' ∧
      (((lineT s.data.toList).isEmpty = true ∧ e = .returned (.tuple #[.slice none 0 0, .bool true])) ∨
       ((lineT s.data.toList).isEmpty = false ∧ ∃ v, e = .returned (.tuple #[v, .bool (asmLine (lineT s.data.toList) pc).isSome]) ∧ OwnB w' w.heap.size v ((asmLine (lineT s.data.toList) pc).getD []))) := by
  have hl : s.data.toList.length = s.size := Array.length_toList
  obtain ⟨W, hW⟩ : ∃ W, wordsL (s.data.toList.takeWhile noSemi) = W := ⟨_, rfl⟩
  have h3 : (s.data.toList.takeWhile noSemi).length ≤ s.data.toList.length := (List.takeWhile_sublist _).length_le
  have h4 := wordsL_wsum (s.data.toList.takeWhile noSemi)
  have h5 := wordsL_len (s.data.toList.takeWhile noSemi)
  rw [hW] at h4 h5
  obtain ⟨X, hX⟩ : ∃ X, lineT s.data.toList = X := ⟨_, rfl⟩
  have HJ := Lib.hid (show strOf (joinT W) = strOf X by rw [← hX, lineT, hW])
  have hXl : X.length ≤ 1048576 := by have := lineT_len s.data.toList; rw [hX] at this; omega
  rw [hX]
  have HCW := Lib.hid (show wordsOf (cutA s 59).data.toList = W.map strOf by
    rw [words_eq, cutA_list, semi_cut, hW])
  have hcs : (cutA s 59).size ≤ 1048576 := by
    show (s.data.toList.take (signAt s.data.toList 59)).toArray.size ≤ _
    rw [List.size_toArray, List.length_take]; omega
  obtain ⟨CA, hCA⟩ : ∃ CA, cutA s 59 = CA := ⟨_, rfl⟩
  have CC := fun w => cut_any s 59 (by omega) w
  rw [hCA] at HCW hcs CC
  obtain ⟨T, hT⟩ : ∃ T, strOf X = T := ⟨_, rfl⟩
  rw [hT] at HJ
  have hTs : T.size ≤ 1048576 := by rw [← hT, strOf_size]; exact hXl
  have HTD := Lib.hid (show T.data.toList = X by rw [← hT]; simp [strOf])
  have HT := Lib.hid hT
  have HB := Lib.hid (show wsum W ≤ 1048577 ∧ W.length ≤ 1048577 by omega)
  clear hW h3 h4 h5 hX hXl hCA hT
  go_enter Try.func45, Try.ntmps45
  go_wp2_with fail
  refine (CC _).mono ?_
  rintro e w1 ⟨ok, rfl, n1, rfl⟩
  have b1 := below_drewN (Below.refl w.heap.size w) n1
  go_wp2_with fail
  refine (implWords_any CA _ hcs).mono ?_
  rintro e w2 ⟨v2, rfl, ho2, b2⟩
  rw [HCW.out] at ho2
  have b2 := bstep b1 b2
  go_wp2_with fail
  refine (join_any W v2 _ _ ho2 HB.out.1 HB.out.2).mono ?_
  rintro e w3 ⟨rfl, b3⟩
  rw [HJ.out]
  have b3 := bstep b2 b3
  clear ho2 b2 b1
  cases hE : T.toList.isEmpty with
  | true =>
    have hXe : X.isEmpty = true := by rw [← HTD.out, ← ByteArray.toList_eq]; exact hE
    go_wp2
    go_ret2
    exact ⟨b3, .inl ⟨hXe, rfl⟩⟩
  | false =>
    have hXe : X.isEmpty = false := by rw [← HTD.out, ← ByteArray.toList_eq]; exact hE
    go_wp2_with fail
    refine (Try.strings_CutPrefix T ⟨#[46, 98, 121, 116, 101, 32, 36]⟩ _).mono ?_
    rintro e w' ⟨rfl, rfl⟩
    rw [show (⟨#[46, 98, 121, 116, 101, 32, 36]⟩ : ByteArray).data.toList = dotB from rfl, HTD.out]
    cases hP : Lib.hasPrefix X dotB with
    | true =>
      have HA := Lib.hid (asm_pre (pc := pc) hP)
      have hR : Lib.trimPrefix X dotB = X.drop 7 := by unfold Lib.trimPrefix; rw [if_pos hP]; rfl
      rw [hR]
      obtain ⟨R, hRR⟩ : ∃ R, strOf (X.drop 7) = R := ⟨_, rfl⟩
      have hRs : R.size ≤ maxLen := by rw [← hRR, strOf_size, List.length_drop, ← HTD.out, show T.data.toList.length = T.size from Array.length_toList]; unfold maxLen; omega
      rw [show (⟨(X.drop 7).toArray⟩ : ByteArray) = R from hRR]
      rw [hRR] at HA
      obtain ⟨n, hn⟩ : ∃ n, rhex R 2 = n := ⟨_, rfl⟩
      have hn2 : n < 256 := by rw [← hn]; exact rhex_range R
      rw [hn] at HA
      have HN := Lib.hid hn
      clear hn hR hRR hP hE
      go_wp2_with fail
      refine (implReadHex_any R 2 _ hRs).mono ?_
      rintro e w4 ⟨rfl, hw4⟩
      rw [HN.out]
      have b4 := bstep b3 (iterBelow hw4)
      clear hw4
      by_cases h0 : n < 0
      · go_wp2
        go_ret2
        exact ⟨b4, .inr ⟨hXe, _, by rw [HA.out, if_pos h0]; rfl, by rw [HA.out, if_pos h0]; exact ownNil _ _⟩⟩
      · have HA2 := Lib.hid (HA.out.trans (if_neg h0))
        obtain ⟨k, rfl⟩ := Int.eq_ofNat_of_zero_le (show 0 ≤ n by omega)
        have hk : k < 256 := by omega
        have hs4 := b4.size
        go_wp2
        go_ret2
        refine ⟨b4.alloc hs4 _, .inr ⟨hXe, _, by rw [HA2.out]; rfl, ?_⟩⟩
        rw [HA2.out]
        have := ownNew w4 [k] (by simp) (fun i hi => by rcases i with _ | i; exact hk; simp at hi)
        simpa [u8V] using OwnB.base this hs4
    | false =>
      have HA := Lib.hid (asm_nopre (pc := pc) hP)
      clear hP hE
      go_wp2_with fail
      refine (implRead T pc _ hp hTs).mono ?_
      rintro e w4 ⟨v4, rfl, ho4, b4⟩
      have b5 := bstep b3 b4
      rw [HT.out] at HA
      go_wp2
      go_ret2
      exact ⟨b5, .inr ⟨hXe, v4, by rw [HA.out]; rfl, by rw [HA.out]; exact OwnB.base ho4 b3.size⟩⟩

end Go.Proofs.Ytffhjoldiicgdaa
