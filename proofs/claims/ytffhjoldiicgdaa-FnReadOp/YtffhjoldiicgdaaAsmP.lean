/-
  What the program reads of a text is what the model reads: plain, without any Go program; and impl.ReadOp's contract.
-/
import Derived.Test.YtffhjoldiicgdaaAsmO
namespace Go.Proofs.Ytffhjoldiicgdaa
set_option linter.unusedVariables false
set_option linter.unusedSimpArgs false
open Go.RowKit

/-- The number that the program reads. -/
def numI (bh : ByteArray) : Int := numK 4 (cutB bh 36).data.toList 0

theorem cutB_list (s : ByteArray) (c : UInt8) : (cutB s c).data.toList = s.data.toList.drop (signAt s.data.toList c + 1) := by simp [cutB, strOf]
theorem cutA_list (s : ByteArray) (c : UInt8) : (cutA s c).data.toList = s.data.toList.take (signAt s.data.toList c) := by simp [cutA, strOf]

theorem numK_range : ∀ (n : Nat) (l : List UInt8) (a : Int), 0 ≤ a → 0 ≤ numK n l a ∧ numK n l a < (a + 1) * 16 ^ n
  | 0, l, a, h => by simp [numK]; omega
  | n + 1, [], a, h => by
    rw [numK]
    have hp : (1 : Int) ≤ 16 ^ (n + 1) := Int.pow_pos (by omega)
    refine ⟨h, ?_⟩
    have : (a + 1) * 1 ≤ (a + 1) * 16 ^ (n + 1) := Int.mul_le_mul_of_nonneg_left hp (by omega)
    omega
  | n + 1, c :: r, a, h => by
    rw [numK]
    have hd := (dig_le (c.toNat : Int)).2
    split
    · have hp : (1 : Int) ≤ 16 ^ (n + 1) := Int.pow_pos (by omega)
      refine ⟨h, ?_⟩
      have : (a + 1) * 1 ≤ (a + 1) * 16 ^ (n + 1) := Int.mul_le_mul_of_nonneg_left hp (by omega)
      omega
    · obtain ⟨i1, i2⟩ := numK_range n r (a * 16 + dig (c.toNat : Int)) (by omega)
      refine ⟨i1, Int.lt_of_lt_of_le i2 ?_⟩
      have hp : (0 : Int) ≤ 16 ^ n := Int.pow_nonneg (by omega)
      calc (a * 16 + dig (c.toNat : Int) + 1) * 16 ^ n ≤ ((a + 1) * 16) * 16 ^ n := Int.mul_le_mul_of_nonneg_right (by omega) hp
        _ = (a + 1) * 16 ^ (n + 1) := by rw [Int.pow_succ, Int.mul_assoc, Int.mul_comm 16]

theorem numI_range (bh : ByteArray) : 0 ≤ numI bh ∧ numI bh < 65536 := by
  have := numK_range 4 (cutB bh 36).data.toList 0 (by omega)
  exact ⟨this.1, by have h2 := this.2; unfold numI; simpa using h2⟩

theorem dig44 : dig ((44 : UInt8).toNat : Int) < 0 := by decide
theorem dig41 : dig ((41 : UInt8).toNat : Int) < 0 := by decide

/-- The number that is read of a mode's text is the one that is shown. -/
theorem numI_tX (m : Nat) (h2 : 2 ≤ m) (h : m < 13) (N : Nat) : numI (tX m N) = ((N % 16 ^ tD m : Nat) : Int) := by
  have k1 := dig_hexD (k := N % 16) (by omega)
  have k2 := dig_hexD (k := N / 16 % 16) (by omega)
  have k3 := dig_hexD (k := N / 16 / 16 % 16) (by omega)
  have k4 := dig_hexD (k := N / 16 / 16 / 16 % 16) (by omega)
  have n1 : ¬ (((N % 16 : Nat) : Int) < 0) := by omega
  have n2 : ¬ (((N / 16 % 16 : Nat) : Int) < 0) := by omega
  have n3 : ¬ (((N / 16 / 16 % 16 : Nat) : Int) < 0) := by omega
  have n4 : ¬ (((N / 16 / 16 / 16 % 16 : Nat) : Int) < 0) := by omega
  have d44 := dig44
  have d41 := dig41
  have e2 : ((0 : Int) * 16 + ((N / 16 % 16 : Nat) : Int)) * 16 + ((N % 16 : Nat) : Int) = ((N % 256 : Nat) : Int) := by omega
  have e4 : ((((0 : Int) * 16 + ((N / 16 / 16 / 16 % 16 : Nat) : Int)) * 16 + ((N / 16 / 16 % 16 : Nat) : Int)) * 16 + ((N / 16 % 16 : Nat) : Int)) * 16 + ((N % 16 : Nat) : Int) = ((N % 65536 : Nat) : Int) := by omega
  unfold numI
  rw [cutB_list]
  rcases m with _ | _ | _ | _ | _ | _ | _ | _ | _ | _ | _ | _ | _ | m <;> first
    | omega
    | (have hs : ∀ r : List UInt8, signAt (32 :: 36 :: r) 36 = 1 := fun r => by simp [signAt, List.takeWhile]
       have hs3 : ∀ r : List UInt8, signAt (32 :: 35 :: 36 :: r) 36 = 2 := fun r => by simp [signAt, List.takeWhile]
       have hs4 : ∀ r : List UInt8, signAt (32 :: 40 :: 36 :: r) 36 = 2 := fun r => by simp [signAt, List.takeWhile]
       simp only [tX, tT, tD, tU, ByteArray.data_append, Array.toList_append, List.cons_append, List.nil_append, List.append_nil, hexL_two, hexL_four, hs, hs3, hs4, List.drop_succ_cons, List.drop_zero]
       first
       | (rw [numK, if_neg (by rw [k2]; exact n2), numK, if_neg (by rw [k1]; exact n1), numK, k1, k2]; exact e2)
       | (rw [numK, if_neg (by rw [k2]; exact n2), numK, if_neg (by rw [k1]; exact n1), numK, if_pos (by first | exact d44 | exact d41), k1, k2]; exact e2)
       | (rw [numK, if_neg (by rw [k4]; exact n4), numK, if_neg (by rw [k3]; exact n3), numK, if_neg (by rw [k2]; exact n2), numK, if_neg (by rw [k1]; exact n1), numK, k1, k2, k3, k4]; exact e4))

/-- A text of three letters and what stands behind them, which is nothing or begins with a blank. -/
theorem blank_cut {a b c : UInt8} {t : List UInt8} (ha : a ≠ 32) (hb : b ≠ 32) (hc : c ≠ 32) (ht : t = [] ∨ ∃ r, t = 32 :: r) : signAt (a :: b :: c :: t) 32 = 3 := by
  have e1 : (a != 32) = true := by simpa using ha
  have e2 : (b != 32) = true := by simpa using hb
  have e3 : (c != 32) = true := by simpa using hc
  rcases ht with rfl | ⟨r, rfl⟩
  · simp [signAt, List.takeWhile, e1, e2, e3]
  · simp [signAt, List.takeWhile, e1, e2, e3]

theorem name_letters {x : Nat} (hx : x < 256) (h : opId x ≠ 0) : ∃ a b c, (opName x).data.toList = [a, b, c] ∧ a ≠ 32 ∧ b ≠ 32 ∧ c ≠ 32 := by
  have h' : ∀ k : Fin 57, k.1 ≠ 0 → (opTx k.1).data.toList = [(opTx k.1).data.toList.getD 0 0, (opTx k.1).data.toList.getD 1 0, (opTx k.1).data.toList.getD 2 0] ∧ (opTx k.1).data.toList.getD 0 0 ≠ 32 ∧ (opTx k.1).data.toList.getD 1 0 ≠ 32 ∧ (opTx k.1).data.toList.getD 2 0 ≠ 32 := by decide +kernel
  have := h' ⟨opId x, by have := opId_le hx; omega⟩ h
  exact ⟨_, _, _, this⟩

theorem tail_blank (m N : Nat) (h : m < 13) : (mText m N).data.toList = [] ∨ ∃ r, (mText m N).data.toList = 32 :: r := by
  unfold mText
  split
  · rcases m with _ | _ | m
    · exact .inl rfl
    · exact .inr ⟨_, rfl⟩
    · omega
  · right
    rcases m with _ | _ | _ | _ | _ | _ | _ | _ | _ | _ | _ | _ | _ | m <;> first
      | omega
      | (simp only [tX, tT, ByteArray.data_append, Array.toList_append, List.cons_append, List.nil_append]; exact ⟨_, rfl⟩)

/-- The name and what stands behind it. -/
def behI (s : ByteArray) : ByteArray := s.extract (cutA s 32).size s.size

theorem behI_list (s : ByteArray) : (behI s).data.toList = s.data.toList.drop (signAt s.data.toList 32) := by
  have hl : s.data.toList.length = s.size := Array.length_toList
  have hle := signAt_le s.data.toList 32
  have hsz : (cutA s 32).size = signAt s.data.toList 32 := by
    show (s.data.toList.take (signAt s.data.toList 32)).toArray.size = _
    rw [List.size_toArray, List.length_take]; omega
  unfold behI
  rw [extract_part, hsz, List.take_of_length_le (by rw [List.length_drop]; omega)]
  simp [strOf]

theorem cut_name {s : ByteArray} {x : Nat} {T : ByteArray} (hx : x < 256) (hid : opId x ≠ 0) (hs : s = opName x ++ T) (ht : T.data.toList = [] ∨ ∃ r, T.data.toList = 32 :: r) : cutA s 32 = opName x ∧ behI s = T := by
  obtain ⟨a, b, c, e, ha, hb, hc⟩ := name_letters hx hid
  have hl : s.data.toList = a :: b :: c :: T.data.toList := by rw [hs, ByteArray.data_append, Array.toList_append, e]; rfl
  have hsg : signAt s.data.toList 32 = 3 := by rw [hl]; exact blank_cut ha hb hc ht
  refine ⟨ba_ext ?_, ba_ext ?_⟩
  · rw [cutA_list, hsg, hl, e]; rfl
  · rw [behI_list, hsg, hl]; rfl

theorem name_behind (s : ByteArray) : cutA s 32 ++ behI s = s := by
  apply ba_ext
  rw [ByteArray.data_append, Array.toList_append, cutA_list, behI_list, List.take_append_drop]

theorem mode_nat {x : Nat} (hx : x < 256) (h : opId x ≠ 0) : ∃ m : Nat, m < 13 ∧ opMode x = m ∧ opSize x = sizeOfM m := by
  have h0 := modes13 hx h
  obtain ⟨m, hm⟩ := Int.eq_ofNat_of_zero_le (show 0 ≤ opMode x by omega)
  exact ⟨m, by omega, hm, by rw [← hm]; simp [opSize, h]⟩

theorem show_text {x0 x1 x2 pc m : Nat} (hm : opMode x0 = m) (h : m < 13) : showTx x0 x1 x2 pc = opName x0 ++ mText m (tN m x1 x2 pc) := by
  unfold mText
  split
  · rename_i hlo; exact (showTx_fix hm hlo).symm
  · exact (showTx_num hm (by omega) h).symm

theorem tN_lt {m x1 x2 pc : Nat} (h2 : 2 ≤ m) (h : m < 13) (h1 : x1 < 256) (hx2 : x2 < 256) : tN m x1 x2 pc % 16 ^ tD m = tN m x1 x2 pc := by
  have hr := relAt_lt pc x1
  obtain ⟨_, _, _, _, _, hd⟩ := tFacts m h2 h
  apply Nat.mod_eq_of_lt
  by_cases e : m = 12
  · subst e; simp [tN, tD]; omega
  · rcases hd with d | d
    · rw [d]; simp [tN, e, d]; omega
    · rw [d]; simp [tN, e, d]; omega

/-- The text of an operation, as the program takes it apart. -/
theorem show_parts {s : ByteArray} {x0 x1 x2 pc m : Nat} (h0 : x0 < 256) (h1 : x1 < 256) (h2 : x2 < 256) (hid : opId x0 ≠ 0) (hm : opMode x0 = m) (h : m < 13) (hs : showTx x0 x1 x2 pc = s) :
    cutA s 32 = opName x0 ∧ behI s = mText m (tN m x1 x2 pc) ∧ mText m (numI (behI s)).toNat = behI s ∧ (2 ≤ m → (numI (behI s)).toNat = tN m x1 x2 pc) := by
  obtain ⟨e1, e2⟩ := cut_name h0 hid (hs.symm.trans (show_text hm h)) (tail_blank m _ h)
  have hn : 2 ≤ m → (numI (behI s)).toNat = tN m x1 x2 pc := fun h2m => by
    rw [e2]
    have e : mText m (tN m x1 x2 pc) = tX m (tN m x1 x2 pc) := by unfold mText; rw [if_neg (by omega)]
    rw [e, numI_tX m h2m h, tN_lt h2m h h1 h2]
    simp
  refine ⟨e1, e2, ?_, hn⟩
  by_cases h2m : 2 ≤ m
  · rw [hn h2m, e2]
  · rw [e2]
    unfold mText
    rw [if_pos (by omega), if_pos (by omega)]

theorem goM_cases (nm bh : ByteArray) (N pc : Nat) : ∀ (n m : Nat), (goM nm bh N pc n m = none ∧ ∀ j, m ≤ j → j < m + n → ((mText j N).toList == bh.toList) = true → codeOf nm (j : Int) = -1) ∨
    ∃ j, m ≤ j ∧ j < m + n ∧ ((mText j N).toList == bh.toList) = true ∧ codeOf nm (j : Int) ≠ -1 ∧ goM nm bh N pc n m = iBytes (codeOf nm (j : Int)).toNat j N pc
  | 0, m => .inl ⟨rfl, fun j h1 h2 => absurd h1 (by omega)⟩
  | n + 1, m => by
    have ih := goM_cases nm bh N pc n (m + 1)
    by_cases h : ((mText m N).toList == bh.toList) = true
    · by_cases hc : codeOf nm (m : Int) = -1
      · have e : goM nm bh N pc (n + 1) m = goM nm bh N pc n (m + 1) := by rw [goM, if_pos h, if_pos (by rw [hc]; rfl)]
        rw [e]
        rcases ih with ⟨i1, i2⟩ | ⟨j, j1, j2, j3, j4, j5⟩
        · exact .inl ⟨i1, fun j h1 h2 h3 => by
            by_cases ej : j = m
            · rw [ej]; exact hc
            · exact i2 j (by omega) (by omega) h3⟩
        · exact .inr ⟨j, by omega, by omega, j3, j4, j5⟩
      · exact .inr ⟨m, Nat.le_refl _, by omega, h, hc, by rw [goM, if_pos h, if_neg (by simpa using hc)]⟩
    · have e : goM nm bh N pc (n + 1) m = goM nm bh N pc n (m + 1) := by rw [goM, if_neg h]
      rw [e]
      rcases ih with ⟨i1, i2⟩ | ⟨j, j1, j2, j3, j4, j5⟩
      · exact .inl ⟨i1, fun j h1 h2 h3 => by
          by_cases ej : j = m
          · rw [ej] at h3; exact absurd h3 h
          · exact i2 j (by omega) (by omega) h3⟩
      · exact .inr ⟨j, by omega, by omega, j3, j4, j5⟩

theorem rel_of_fit {N pc : Nat} (hN : N < 65536) (hf : relFit N pc = true) : relAt pc ((((N : Int) - pc - 2) % 256).toNat) = N := by
  unfold relFit at hf
  have hf := of_decide_eq_true hf
  unfold relAt offB
  split <;> omega

theorem fit_of_rel {pc x1 : Nat} (h1 : x1 < 256) : relFit (relAt pc x1) pc = true := by
  unfold relFit relAt offB
  apply decide_eq_true
  split <;> omega

theorem read_eq (s : ByteArray) (pc : Nat) (hp : pc < 65536) : goM (cutA s 32) (behI s) (numI (behI s)).toNat pc 13 0 = readOp s pc := by
  obtain ⟨n0, n1⟩ := numI_range (behI s)
  rcases goM_cases (cutA s 32) (behI s) (numI (behI s)).toNat pc 13 0 with ⟨i1, i2⟩ | ⟨j, _, j2, j3, j4, j5⟩
  · rw [i1]
    cases hr : readOp s pc with
    | none => rfl
    | some l =>
      exfalso
      obtain ⟨x0, x1, x2, h0, h1, h2, hid, _, hs⟩ := show_read hr
      obtain ⟨m, hm13, hm, _⟩ := mode_nat h0 hid
      obtain ⟨e1, _, e3, _⟩ := show_parts h0 h1 h2 hid hm hm13 hs
      have := i2 m (by omega) (by omega) (by rw [e3]; exact beq_self_eq_true _)
      rw [e1, ← hm, code_back h0 hid] at this
      omega
  · rw [j5]
    have hT := ba_beq j3
    rcases codeOf_range (cutA s 32) (j : Int) with hc | ⟨c, hc1, hc2, hc3, hc4⟩
    · exact absurd hc j4
    have hnm : opName c = cutA s 32 := ba_beq (by unfold hasOp at hc3; rw [Bool.and_eq_true] at hc3; exact hc3.1)
    have hmd : opMode c = (j : Int) := by unfold hasOp at hc3; rw [Bool.and_eq_true] at hc3; simpa using hc3.2
    have hid : opId c ≠ 0 := fun e => by
      rw [← hnm, opName_empty hc1, e] at hc4
      simp at hc4
    have hsz : opSize c = sizeOfM (j : Int) := by rw [← hmd]; simp [opSize, hid]
    rw [hc2, Int.toNat_natCast]
    have hs : s = opName c ++ mText j (numI (behI s)).toNat := by rw [hnm, hT, name_behind]
    generalize hNN : (numI (behI s)).toNat = N at hT hs
    have hN : N < 65536 := by omega
    by_cases hlo : j < 2
    · have hsh : showTx c 0 0 pc = s := by rw [hs, ← showTx_fix (x1 := 0) (x2 := 0) (pc := pc) hmd hlo]; simp [mText, hlo]
      have hr := read_show (x1 := 0) (x2 := 0) (pc := pc) hc1 (by omega) (by omega) hid
      rw [hsh] at hr
      rw [hr, hsz]
      have hj : ((j : Int) = 12) = False := by simp; omega
      have h1 : sizeOfM (j : Int) = 1 := by rcases j with _ | _ | j <;> first | omega | rfl
      simp [iBytes, hj, h1]
    · have h2j : 2 ≤ j := by omega
      have eT : mText j N = tX j N := by simp [mText, hlo]
      have hmod : N % 16 ^ tD j = N := by
        have := numI_tX j h2j (by omega) N
        rw [← eT, hT] at this
        omega
      rcases tD_size j h2j (by omega) with ⟨q1, q2⟩ | ⟨q1, q2, q3⟩ | ⟨q1, q2, q3⟩
      · subst q1
        cases hf : relFit N pc with
        | true =>
          have hrel := rel_of_fit hN hf
          have hsh : showTx c ((((N : Int) - pc - 2) % 256).toNat) 0 pc = s := by
            rw [hs, ← showTx_num (x1 := (((N : Int) - pc - 2) % 256).toNat) (x2 := 0) (pc := pc) hmd h2j (by omega), eT]
            simp [tN, hrel]
          have hr := read_show (x1 := (((N : Int) - pc - 2) % 256).toNat) (x2 := 0) (pc := pc) hc1 (by omega) (by omega) hid
          rw [hsh] at hr
          rw [hr, hsz, q2]
          simp [iBytes, hf]
        | false =>
          have e : iBytes c (12 : Int) N pc = none := by simp [iBytes, hf]
          show iBytes c ((12 : Nat) : Int) N pc = _
          rw [show ((12 : Nat) : Int) = 12 from rfl, e]
          cases hr : readOp s pc with
          | none => rfl
          | some l =>
            exfalso
            obtain ⟨x0, x1, x2, h0, h1, h2, hid0, _, hss⟩ := show_read hr
            obtain ⟨m, hm13, hm, _⟩ := mode_nat h0 hid0
            obtain ⟨p1, p2, p3, p4⟩ := show_parts h0 h1 h2 hid0 hm hm13 hss
            have hidE : opId x0 = opId c := opName_inj h0 hc1 (by rw [← p1, hnm])
            have htl : tailM (opMode x0) (hexL 2 x1) (hexL 4 (x1 + 256 * x2)) (hexL 4 (relAt pc x1)) = tailM 12 (hexL 2 0) (hexL 4 0) (hexL 4 N) := by
              have a1 : (behI s).data.toList = tailM (opMode x0) (hexL 2 x1) (hexL 4 (x1 + 256 * x2)) (hexL 4 (relAt pc x1)) := by
                have hl : (showTx x0 x1 x2 pc).data.toList = s.data.toList := by rw [hss]
                rw [showTx_list, ← name_behind s, ByteArray.data_append, Array.toList_append, p1] at hl
                exact (List.append_cancel_left hl).symm
              have a2 : (behI s).data.toList = tailM 12 (hexL 2 0) (hexL 4 0) (hexL 4 N) := by
                rw [← hT, eT]
                simp [tX, tT, tD, tU, tailM, ByteArray.data_append]
              rw [← a1, a2]
            rcases tail_mode (two_digits _) (two_digits _) (four_digits _) (four_digits _) (four_digits _) (four_digits _) (modes13 h0 hid0) (by omega) htl with f | ⟨f1, f2⟩ | ⟨f1, f2⟩
            · have hm12 : m = 12 := by omega
              subst hm12
              have := p4 (by omega)
              rw [hNN] at this
              have hfit := fit_of_rel (pc := pc) h1
              have et : tN 12 x1 x2 pc = relAt pc x1 := by simp [tN]
              rw [et] at this
              rw [← this, hf] at hfit
              cases hfit
            · exact no_both h0 hc1 hidE f1 hmd
            · omega
      · have hlt : N < 256 := by rw [q3] at hmod; omega
        have hsh : showTx c N 0 pc = s := by
          rw [hs, ← showTx_num (x1 := N) (x2 := 0) (pc := pc) hmd h2j (by omega), eT]
          simp [tN, q1, q3]
        have hr := read_show (x1 := N) (x2 := 0) (pc := pc) hc1 hlt (by omega) hid
        rw [hsh] at hr
        rw [hr, hsz, q2]
        have hj : ((j : Int) = 12) = False := by simp; omega
        simp [iBytes, hj, q2, Nat.mod_eq_of_lt hlt]
      · have hsh : showTx c (N % 256) (N / 256) pc = s := by
          rw [hs, ← showTx_num (x1 := N % 256) (x2 := N / 256) (pc := pc) hmd h2j (by omega), eT]
          have : N % 256 + 256 * (N / 256) = N := by omega
          simp [tN, q1, q3, this]
        have hr := read_show (x1 := N % 256) (x2 := N / 256) (pc := pc) hc1 (by omega) (by omega) hid
        rw [hsh] at hr
        rw [hr, hsz, q2]
        have hj : ((j : Int) = 12) = False := by simp; omega
        simp [iBytes, hj, q2]

theorem implRead : ImplRead := by
  intro s pc w hp hs
  obtain ⟨n0, n1⟩ := numI_range (behI s)
  rw [← read_eq s pc hp]
  have hl : s.data.toList.length = s.size := Array.length_toList
  have hsz : (cutA s 32).size ≤ s.size := by
    show (s.data.toList.take (signAt s.data.toList 32)).toArray.size ≤ _
    rw [List.size_toArray, List.length_take]; omega
  have hbs : (behI s).size ≤ 1048576 := by
    have : (behI s).size ≤ s.size := by unfold behI; rw [ByteArray.size_extract]; omega
    omega
  refine read_by s (cutA s 32) (cutB s 32) (behI s) (numI (behI s)).toNat pc (by omega) hp (by omega) rfl (cut_any s 32 hs) (fun w => ?_) w
  refine (numberIn_any (behI s) hbs w).mono ?_
  rintro e w' ⟨rfl, hb⟩
  exact ⟨by
    have : ((numI (behI s)).toNat : Int) = numI (behI s) := by omega
    rw [this]; rfl, hb⟩

end Go.Proofs.Ytffhjoldiicgdaa
