/-
  Operations as texts, without any Go program: a text is told by its letters; the bytes of an operation come back from its text, and no others.
-/
import Derived.Test.YtffhjoldiicgdaaAsmC
import Derived.Test.YtffhjoldiicgdaaOpPlain
namespace Go.Proofs.Ytffhjoldiicgdaa
set_option linter.unusedVariables false
set_option linter.unusedSimpArgs false

/-- What stands behind a name, by the mode: the digits of one byte, of two, and of where a branch goes. -/
def tailM (m : Int) (o t r : List UInt8) : List UInt8 :=
  if m == 1 then [32, 65] else if m == 2 then [32, 35, 36] ++ o else if m == 3 then [32, 36] ++ o
  else if m == 4 then [32, 36] ++ o ++ [44, 88] else if m == 5 then [32, 36] ++ o ++ [44, 89]
  else if m == 6 then [32, 36] ++ t else if m == 7 then [32, 36] ++ t ++ [44, 88] else if m == 8 then [32, 36] ++ t ++ [44, 89]
  else if m == 9 then [32, 40, 36] ++ t ++ [41] else if m == 10 then [32, 40, 36] ++ o ++ [44, 88, 41] else if m == 11 then [32, 40, 36] ++ o ++ [41, 44, 89]
  else if m == 12 then [32, 36] ++ r else []

theorem showTx_list (x0 x1 x2 pc : Nat) : (showTx x0 x1 x2 pc).data.toList = (opName x0).data.toList ++ tailM (opMode x0) (hexL 2 x1) (hexL 4 (x1 + 256 * x2)) (hexL 4 (relAt pc x1)) := by
  unfold showTx asmText tailM oneTx twoTx relTx
  generalize opMode x0 = m
  by_cases h1 : m = 1
  · subst h1; simp [ByteArray.data_append]
  by_cases h2 : m = 2
  · subst h2; simp [ByteArray.data_append]
  by_cases h3 : m = 3
  · subst h3; simp [ByteArray.data_append]
  by_cases h4 : m = 4
  · subst h4; simp [ByteArray.data_append]
  by_cases h5 : m = 5
  · subst h5; simp [ByteArray.data_append]
  by_cases h6 : m = 6
  · subst h6; simp [ByteArray.data_append]
  by_cases h7 : m = 7
  · subst h7; simp [ByteArray.data_append]
  by_cases h8 : m = 8
  · subst h8; simp [ByteArray.data_append]
  by_cases h9 : m = 9
  · subst h9; simp [ByteArray.data_append]
  by_cases h10 : m = 10
  · subst h10; simp [ByteArray.data_append]
  by_cases h11 : m = 11
  · subst h11; simp [ByteArray.data_append]
  by_cases h12 : m = 12
  · subst h12; simp [ByteArray.data_append]
  simp [ByteArray.data_append, h1, h2, h3, h4, h5, h6, h7, h8, h9, h10, h11, h12]

/-- A letter that is no digit and no sign. -/
structure Digit (c : UInt8) : Prop where
  hx : isHx c = true
  n32 : c ≠ 32
  n35 : c ≠ 35
  n36 : c ≠ 36
  n40 : c ≠ 40
  n41 : c ≠ 41
  n44 : c ≠ 44
  n88 : c ≠ 88
  n89 : c ≠ 89

theorem hexD_digit {k : Nat} (hk : k < 16) : Digit (hexD k) := by
  have h : ∀ i : Fin 16, isHx (hexD i.1) = true ∧ hexD i.1 ≠ 32 ∧ hexD i.1 ≠ 35 ∧ hexD i.1 ≠ 36 ∧ hexD i.1 ≠ 40 ∧ hexD i.1 ≠ 41 ∧ hexD i.1 ≠ 44 ∧ hexD i.1 ≠ 88 ∧ hexD i.1 ≠ 89 := by decide +kernel
  obtain ⟨a, b, c, d, e, f, g, i, j⟩ := h ⟨k, hk⟩
  exact ⟨a, b, c, d, e, f, g, i, j⟩

theorem hexD_inj {j k : Nat} (hj : j < 16) (hk : k < 16) (h : hexD j = hexD k) : j = k := by
  have h' : ∀ a b : Fin 16, hexD a.1 = hexD b.1 → a.1 = b.1 := by decide +kernel
  exact h' ⟨j, hj⟩ ⟨k, hk⟩ h

theorem dig_hexD {k : Nat} (hk : k < 16) : dig ((hexD k).toNat : Int) = k := by
  have h' : ∀ a : Fin 16, dig ((hexD a.1).toNat : Int) = (a.1 : Int) := by decide +kernel
  exact h' ⟨k, hk⟩

theorem hexL_two (x : Nat) : hexL 2 x = [hexD (x / 16 % 16), hexD (x % 16)] := by simp [hexL]
theorem hexL_four (x : Nat) : hexL 4 x = [hexD (x / 16 / 16 / 16 % 16), hexD (x / 16 / 16 % 16), hexD (x / 16 % 16), hexD (x % 16)] := by simp [hexL]

theorem hexL_two_inj {x y : Nat} (hx : x < 256) (hy : y < 256) (h : hexL 2 x = hexL 2 y) : x = y := by
  rw [hexL_two, hexL_two] at h
  simp only [List.cons.injEq, and_true] at h
  have a := hexD_inj (by omega) (by omega) h.1
  have b := hexD_inj (by omega) (by omega) h.2
  omega

theorem hexL_four_inj {x y : Nat} (hx : x < 65536) (hy : y < 65536) (h : hexL 4 x = hexL 4 y) : x = y := by
  rw [hexL_four, hexL_four] at h
  simp only [List.cons.injEq, and_true] at h
  obtain ⟨h1, h2, h3, h4⟩ := h
  have a := hexD_inj (by omega) (by omega) h1
  have b := hexD_inj (by omega) (by omega) h2
  have c := hexD_inj (by omega) (by omega) h3
  have d := hexD_inj (by omega) (by omega) h4
  omega

theorem rd_two {x : Nat} (hx : x < 256) : rd 16 (hexL 2 x) 0 = x := by
  rw [hexL_two]
  simp only [rd]
  rw [dig_hexD (by omega), dig_hexD (by omega), if_neg (by omega), if_neg (by omega)]
  omega

theorem rd_four {x : Nat} (hx : x < 65536) : rd 16 (hexL 4 x) 0 = x := by
  rw [hexL_four]
  simp only [rd]
  rw [dig_hexD (by omega), dig_hexD (by omega), dig_hexD (by omega), dig_hexD (by omega), if_neg (by omega), if_neg (by omega), if_neg (by omega), if_neg (by omega)]
  omega

/-- A name has three letters, none of them a dollar sign. -/
theorem name_three {x : Nat} (hx : x < 256) (h : opId x ≠ 0) : ∃ a b c, (opName x).data.toList = [a, b, c] ∧ noDol a = true ∧ noDol b = true ∧ noDol c = true := by
  have h' : ∀ k : Fin 57, k.1 ≠ 0 → (opTx k.1).data.toList = [(opTx k.1).data.toList.getD 0 0, (opTx k.1).data.toList.getD 1 0, (opTx k.1).data.toList.getD 2 0] ∧ noDol ((opTx k.1).data.toList.getD 0 0) = true ∧ noDol ((opTx k.1).data.toList.getD 1 0) = true ∧ noDol ((opTx k.1).data.toList.getD 2 0) = true := by decide +kernel
  have := h' ⟨opId x, by have := opId_le hx; omega⟩ h
  exact ⟨_, _, _, this⟩

theorem two_digits (x : Nat) : ∃ a b, hexL 2 x = [a, b] ∧ Digit a ∧ Digit b := ⟨_, _, hexL_two x, hexD_digit (by omega), hexD_digit (by omega)⟩
theorem four_digits (x : Nat) : ∃ a b c d, hexL 4 x = [a, b, c, d] ∧ Digit a ∧ Digit b ∧ Digit c ∧ Digit d := ⟨_, _, _, _, hexL_four x, hexD_digit (by omega), hexD_digit (by omega), hexD_digit (by omega), hexD_digit (by omega)⟩

theorem modes13 {x : Nat} (hx : x < 256) (h : opId x ≠ 0) : opMode x = 0 ∨ opMode x = 1 ∨ opMode x = 2 ∨ opMode x = 3 ∨ opMode x = 4 ∨ opMode x = 5 ∨ opMode x = 6 ∨ opMode x = 7 ∨ opMode x = 8 ∨ opMode x = 9 ∨ opMode x = 10 ∨ opMode x = 11 ∨ opMode x = 12 := by
  have := byte_all (p := fun x => opId x = 0 ∨ 0 ≤ opMode x) (by decide +kernel) hx
  have := this.resolve_left h
  have := (opMode_range hx).2
  omega

/-- The mode is told by what stands behind the name, but for a branch, that looks as MAbs does. -/
theorem tail_mode {m n : Int} {o o' t t' r r' : List UInt8} (ho : ∃ a b, o = [a, b] ∧ Digit a ∧ Digit b) (ho' : ∃ a b, o' = [a, b] ∧ Digit a ∧ Digit b)
    (ht : ∃ a b c d, t = [a, b, c, d] ∧ Digit a ∧ Digit b ∧ Digit c ∧ Digit d) (ht' : ∃ a b c d, t' = [a, b, c, d] ∧ Digit a ∧ Digit b ∧ Digit c ∧ Digit d)
    (hr : ∃ a b c d, r = [a, b, c, d] ∧ Digit a ∧ Digit b ∧ Digit c ∧ Digit d) (hr' : ∃ a b c d, r' = [a, b, c, d] ∧ Digit a ∧ Digit b ∧ Digit c ∧ Digit d)
    (hm : m = 0 ∨ m = 1 ∨ m = 2 ∨ m = 3 ∨ m = 4 ∨ m = 5 ∨ m = 6 ∨ m = 7 ∨ m = 8 ∨ m = 9 ∨ m = 10 ∨ m = 11 ∨ m = 12)
    (hn : n = 0 ∨ n = 1 ∨ n = 2 ∨ n = 3 ∨ n = 4 ∨ n = 5 ∨ n = 6 ∨ n = 7 ∨ n = 8 ∨ n = 9 ∨ n = 10 ∨ n = 11 ∨ n = 12)
    (h : tailM m o t r = tailM n o' t' r') : m = n ∨ (m = 6 ∧ n = 12) ∨ (m = 12 ∧ n = 6) := by
  obtain ⟨a1, a2, rfl, da1, da2⟩ := ho
  obtain ⟨b1, b2, rfl, db1, db2⟩ := ho'
  obtain ⟨c1, c2, c3, c4, rfl, dc1, dc2, dc3, dc4⟩ := ht
  obtain ⟨e1, e2, e3, e4, rfl, de1, de2, de3, de4⟩ := ht'
  obtain ⟨f1, f2, f3, f4, rfl, df1, df2, df3, df4⟩ := hr
  obtain ⟨g1, g2, g3, g4, rfl, dg1, dg2, dg3, dg4⟩ := hr'
  rcases hm with rfl | rfl | rfl | rfl | rfl | rfl | rfl | rfl | rfl | rfl | rfl | rfl | rfl <;>
  rcases hn with rfl | rfl | rfl | rfl | rfl | rfl | rfl | rfl | rfl | rfl | rfl | rfl | rfl <;>
  first
  | exact .inl rfl
  | exact .inr (.inl ⟨rfl, rfl⟩)
  | exact .inr (.inr ⟨rfl, rfl⟩)
  | (exfalso; simp [tailM, da1.n36, da1.n35, da1.n40, da1.n44, da2.n44, dc3.n44, dc3.n41, dc4.n88, dc4.n89, dc4.n41, dc4.n44, db1.n36, db1.n40, db1.n44, db2.n44, de3.n44, de4.n88, de4.n89, de4.n41, df3.n44, df4.n88, df4.n89, dg3.n44, dg4.n88, dg4.n89, Ne.symm de3.n44, Ne.symm dc3.n44, Ne.symm df3.n44, Ne.symm dg3.n44, Ne.symm de4.n88, Ne.symm dg4.n88, Ne.symm dg4.n89, Ne.symm de4.n89, Ne.symm db2.n41, Ne.symm de3.n41] at h; done)

/-- No name has both MAbs and a branch. -/
theorem no_both {x y : Nat} (hx : x < 256) (hy : y < 256) (h1 : opId x = opId y) (h2 : opMode x = 6) (h3 : opMode y = 12) : False := by
  have kx := byte_all (p := fun x => opMode x ≠ 6 ∨ opId x ≤ 40) (by decide +kernel) hx
  have ky := byte_all (p := fun y => opMode y ≠ 12 ∨ 41 ≤ opId y) (by decide +kernel) hy
  rcases kx with e | e
  · exact e h2
  · rcases ky with f | f
    · exact f h3
    · omega

theorem opName_inj {x y : Nat} (hx : x < 256) (hy : y < 256) (h : (opName x).data.toList = (opName y).data.toList) : opId x = opId y := by
  have := opTx_data (opId_le hx) (opId_le hy)
  unfold opName at h
  rw [h] at this
  simpa using this

/-- A text is of one operation. -/
theorem show_op {x0 x1 x2 y0 y1 y2 pc : Nat} (hx : x0 < 256) (hy : y0 < 256) (ix : opId x0 ≠ 0) (iy : opId y0 ≠ 0) (h : showTx x0 x1 x2 pc = showTx y0 y1 y2 pc) : x0 = y0 := by
  have hl : (showTx x0 x1 x2 pc).data.toList = (showTx y0 y1 y2 pc).data.toList := by rw [h]
  rw [showTx_list, showTx_list] at hl
  obtain ⟨a, b, c, ea, _⟩ := name_three hx ix
  obtain ⟨a', b', c', eb, _⟩ := name_three hy iy
  have hlen : (opName x0).data.toList.length = (opName y0).data.toList.length := by rw [ea, eb]; rfl
  obtain ⟨hn, ht⟩ := List.append_inj hl hlen
  have hid := opName_inj hx hy hn
  rcases tail_mode (two_digits _) (two_digits _) (four_digits _) (four_digits _) (four_digits _) (four_digits _) (modes13 hx ix) (modes13 hy iy) ht with e | ⟨e1, e2⟩ | ⟨e1, e2⟩
  · exact op_one hx hy ix hid e
  · exact (no_both hx hy hid e1 e2).elim
  · exact (no_both hy hx hid.symm e2 e1).elim

/-- The digits that are read of a text, by the mode. -/
def digM (m : Int) (o t r : List UInt8) : List UInt8 :=
  if m == 2 || m == 3 || m == 4 || m == 5 || m == 10 || m == 11 then o else if m == 6 || m == 7 || m == 8 || m == 9 then t else if m == 12 then r else []

theorem digits_tail {m : Int} {a b c : UInt8} {o t r : List UInt8} (ha : noDol a = true) (hb : noDol b = true) (hc : noDol c = true) (ho : ∃ a b, o = [a, b] ∧ Digit a ∧ Digit b)
    (ht : ∃ a b c d, t = [a, b, c, d] ∧ Digit a ∧ Digit b ∧ Digit c ∧ Digit d) (hr : ∃ a b c d, r = [a, b, c, d] ∧ Digit a ∧ Digit b ∧ Digit c ∧ Digit d)
    (hm : m = 0 ∨ m = 1 ∨ m = 2 ∨ m = 3 ∨ m = 4 ∨ m = 5 ∨ m = 6 ∨ m = 7 ∨ m = 8 ∨ m = 9 ∨ m = 10 ∨ m = 11 ∨ m = 12) :
    digitsL ([a, b, c] ++ tailM m o t r) = digM m o t r := by
  obtain ⟨a1, a2, rfl, da1, da2⟩ := ho
  obtain ⟨c1, c2, c3, c4, rfl, dc1, dc2, dc3, dc4⟩ := ht
  obtain ⟨f1, f2, f3, f4, rfl, df1, df2, df3, df4⟩ := hr
  have k32 : noDol 32 = true := by decide
  have k35 : noDol 35 = true := by decide
  have k36 : noDol 36 = false := by decide
  have k40 : noDol 40 = true := by decide
  have k65 : noDol 65 = true := by decide
  have j44 : isHx 44 = false := by decide
  have j41 : isHx 41 = false := by decide
  rcases hm with rfl | rfl | rfl | rfl | rfl | rfl | rfl | rfl | rfl | rfl | rfl | rfl | rfl <;>
  simp [tailM, digM, digitsL, dolAt, List.takeWhile, ha, hb, hc, k32, k35, k36, k40, k65, j44, j41, da1.hx, da2.hx, dc1.hx, dc2.hx, dc3.hx, dc4.hx, df1.hx, df2.hx, df3.hx, df4.hx]

theorem show_digits {x0 x1 x2 pc : Nat} (h0 : x0 < 256) (hid : opId x0 ≠ 0) : digitsL (showTx x0 x1 x2 pc).data.toList = digM (opMode x0) (hexL 2 x1) (hexL 4 (x1 + 256 * x2)) (hexL 4 (relAt pc x1)) := by
  obtain ⟨a, b, c, e, ha, hb, hc⟩ := name_three h0 hid
  rw [showTx_list, e]
  exact digits_tail ha hb hc (two_digits _) (four_digits _) (four_digits _) (modes13 h0 hid)

/-- The number that is read of an operation's text. -/
def numM (m : Int) (x1 x2 pc : Nat) : Nat :=
  if m == 2 || m == 3 || m == 4 || m == 5 || m == 10 || m == 11 then x1 else if m == 6 || m == 7 || m == 8 || m == 9 then x1 + 256 * x2 else if m == 12 then relAt pc x1 else 0

theorem show_num {x0 x1 x2 pc : Nat} (h0 : x0 < 256) (h1 : x1 < 256) (h2 : x2 < 256) (hid : opId x0 ≠ 0) : readNum (showTx x0 x1 x2 pc).data.toList = numM (opMode x0) x1 x2 pc := by
  unfold readNum
  rw [show_digits h0 hid]
  have e1 : hexN (hexL 2 x1) = x1 := by unfold hexN; rw [rd_two h1]; omega
  have e2 : hexN (hexL 4 (x1 + 256 * x2)) = x1 + 256 * x2 := by unfold hexN; rw [rd_four (by omega)]; omega
  have e3 : hexN (hexL 4 (relAt pc x1)) = relAt pc x1 := by unfold hexN; rw [rd_four (relAt_lt pc x1)]; omega
  rcases modes13 h0 hid with e | e | e | e | e | e | e | e | e | e | e | e | e <;> rw [e] <;> simp [digM, numM, hexL_length, e1, e2, e3]

theorem rel_back {pc x1 : Nat} (h1 : x1 < 256) : (((relAt pc x1 : Nat) : Int) - pc - 2) % 256 = x1 := by
  unfold relAt offB
  split <;> omega

/-- The bytes that are tried for an operation's own text are its own. -/
theorem show_cand {x0 x1 x2 pc : Nat} (h0 : x0 < 256) (h1 : x1 < 256) (h2 : x2 < 256) (hid : opId x0 ≠ 0) :
    showTx x0 (cand1 (numM (opMode x0) x1 x2 pc) pc x0) (numM (opMode x0) x1 x2 pc / 256) pc = showTx x0 x1 x2 pc ∧ opBytes (numM (opMode x0) x1 x2 pc) pc x0 = [x0, x1, x2].take (opSize x0).toNat := by
  have hb := rel_back (pc := pc) h1
  obtain ⟨s1, s2, s3⟩ := sizes h0
  have z := opSize_pos h0 hid
  have z3 := (opSize_range h0).2
  have hs : opSize x0 = 1 ∨ opSize x0 = 2 ∨ opSize x0 = 3 := by omega
  have hmod : (x1 + 256 * x2) % 256 = x1 := by omega
  have hdiv : (x1 + 256 * x2) / 256 = x2 := by omega
  have hlow : x1 % 256 = x1 := by omega
  have hlow2 : x1 / 256 = 0 := by omega
  rcases hs with q | q | q
  · rcases s1 q with e | e <;> refine ⟨?_, ?_⟩ <;> simp [showTx, asmText, e, opBytes, q]
  · have hb' : ((((relAt pc x1 : Nat) : Int) - pc - 2) % 256).toNat = x1 := by omega
    rcases s2 q with e | e | e | e | e | e | e <;> refine ⟨?_, ?_⟩ <;> simp [showTx, asmText, e, opBytes, q, cand1, numM, hlow, hb']
  · rcases s3 q with e | e | e | e <;> refine ⟨?_, ?_⟩ <;> simp [showTx, asmText, e, opBytes, q, cand1, numM, hmod, hdiv, twoTx]

theorem ba_ext {a b : ByteArray} (h : a.data.toList = b.data.toList) : a = b := by
  apply ByteArray.ext
  exact Array.ext' h

theorem ba_beq {a b : ByteArray} (h : (a.toList == b.toList) = true) : a = b := by
  have := eq_of_beq h
  rw [ByteArray.toList_eq, ByteArray.toList_eq] at this
  exact ba_ext this

theorem show_size {x0 x1 x2 pc : Nat} (h0 : x0 < 256) (hid : opId x0 ≠ 0) : 3 ≤ (showTx x0 x1 x2 pc).size ∧ (showTx x0 x1 x2 pc).size ≤ 12 := by
  have e : (showTx x0 x1 x2 pc).size = (showTx x0 x1 x2 pc).data.toList.length := Array.length_toList.symm
  rw [e, showTx_list]
  obtain ⟨a, b, c, en, _⟩ := name_three h0 hid
  rw [en]
  rcases modes13 h0 hid with e | e | e | e | e | e | e | e | e | e | e | e | e <;> rw [e] <;> simp [tailM, hexL_length]

theorem show_head {x0 x1 x2 pc : Nat} (h0 : x0 < 256) (hid : opId x0 ≠ 0) : ((opName x0).toList == ((showTx x0 x1 x2 pc).extract 0 3).toList) = true := by
  obtain ⟨a, b, c, en, _⟩ := name_three h0 hid
  rw [ByteArray.toList_eq, ByteArray.toList_eq, extract_part]
  simp only [strOf, List.drop_zero, Nat.sub_zero]
  rw [showTx_list, en]
  simp

theorem readFrom_first {s : ByteArray} {pc x : Nat} (hx : x < 256) (hh : readHit s pc x = true) (hu : ∀ i, i < 256 → readHit s pc i = true → i = x) : ∀ (n j : Nat), j + n = 256 → j ≤ x → readFrom s pc n j = some x
  | 0, j, h1, h2 => by omega
  | n + 1, j, h1, h2 => by
    rw [readFrom]
    by_cases h : readHit s pc j = true
    · rw [if_pos h, hu j (by omega) h]
    · rw [if_neg h]
      refine readFrom_first hx hh hu n (j + 1) (by omega) ?_
      have : j ≠ x := fun e => h (by rw [e]; exact hh)
      omega

/-- The bytes of an operation come back from its text. -/
theorem read_show {x0 x1 x2 pc : Nat} (h0 : x0 < 256) (h1 : x1 < 256) (h2 : x2 < 256) (hid : opId x0 ≠ 0) : readOp (showTx x0 x1 x2 pc) pc = some ([x0, x1, x2].take (opSize x0).toNat) := by
  obtain ⟨z1, z2⟩ := show_size (x1 := x1) (x2 := x2) (pc := pc) h0 hid
  obtain ⟨c1, c2⟩ := show_cand (pc := pc) h0 h1 h2 hid
  have hn := show_num (pc := pc) h0 h1 h2 hid
  have hh : readHit (showTx x0 x1 x2 pc) pc x0 = true := by
    unfold readHit
    rw [hn, c1, show_head h0 hid]
    simp
  have hu : ∀ i, i < 256 → readHit (showTx x0 x1 x2 pc) pc i = true → i = x0 := fun i hi h => by
    unfold readHit at h
    rw [Bool.and_eq_true] at h
    exact show_op hi h0 (opId_named hi z1 h.1) hid (ba_beq h.2)
  rw [readOp, if_neg (by omega), readFrom_first h0 hh hu 256 0 (by omega) (by omega), hn]
  simp [c2]

theorem readFrom_some {s : ByteArray} {pc : Nat} : ∀ (n j i : Nat), j + n = 256 → readFrom s pc n j = some i → i < 256 ∧ readHit s pc i = true
  | 0, j, i, _, h => by simp [readFrom] at h
  | n + 1, j, i, h1, h => by
    rw [readFrom] at h
    split at h
    · rename_i hh
      obtain rfl : j = i := by simpa using h
      exact ⟨by omega, hh⟩
    · exact readFrom_some n (j + 1) i (by omega) h

/-- What is read has that text. -/
theorem show_read {s : ByteArray} {pc : Nat} {l : List Nat} (h : readOp s pc = some l) : ∃ x0 x1 x2, x0 < 256 ∧ x1 < 256 ∧ x2 < 256 ∧ opId x0 ≠ 0 ∧ l = [x0, x1, x2].take (opSize x0).toNat ∧ showTx x0 x1 x2 pc = s := by
  unfold readOp at h
  split at h
  · simp at h
  · rename_i hs
    cases hf : readFrom s pc 256 0 with
    | none => rw [hf] at h; simp at h
    | some i =>
      rw [hf] at h
      obtain ⟨hi, hh⟩ := readFrom_some 256 0 i (by omega) hf
      unfold readHit at hh
      rw [Bool.and_eq_true] at hh
      have hN := readNum_lt s.data.toList
      exact ⟨i, _, _, hi, cand1_lt _ _ _, by omega, opId_named hi (by omega) hh.1, by simpa [opBytes] using h.symm, ba_beq hh.2⟩

end Go.Proofs.Ytffhjoldiicgdaa
