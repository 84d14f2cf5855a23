/-
  Contracts over the program: an operation read from its text (impl.ReadOp), as the program goes.
-/
import Derived.Test.YtffhjoldiicgdaaAsmJ
import Derived.Test.YtffhjoldiicgdaaAsmM
namespace Go.Proofs.Ytffhjoldiicgdaa
set_option linter.unusedVariables false
set_option linter.unusedSimpArgs false
open Go.RowKit

def mText (m N : Nat) : ByteArray := if m < 2 then fX m else tX m N

/-- What the program reads: the first mode whose text stands behind the name, and that the name has. -/
def goM (nm bh : ByteArray) (N pc : Nat) : Nat → Nat → Option (List Nat)
  | 0, _ => none
  | n + 1, m => if ((mText m N).toList == bh.toList) = true then (if (codeOf nm (m : Int) == -1) = true then goM nm bh N pc n (m + 1) else iBytes (codeOf nm (m : Int)).toNat m N pc) else goM nm bh N pc n (m + 1)

theorem goM_miss {nm bh : ByteArray} {N pc m : Nat} (hm : m < 13) (h : ((mText m N).toList == bh.toList) = false) : goM nm bh N pc (13 - m) m = goM nm bh N pc (13 - (m + 1)) (m + 1) := by
  obtain ⟨n, hn⟩ : ∃ n, 13 - m = n + 1 := ⟨12 - m, by omega⟩
  rw [hn, goM, if_neg (by simp [h]), show 13 - (m + 1) = n by omega]

theorem goM_none {nm bh : ByteArray} {N pc m : Nat} (hm : m < 13) (h : ((mText m N).toList == bh.toList) = true) (hc : (codeOf nm (m : Int) == -1) = true) : goM nm bh N pc (13 - m) m = goM nm bh N pc (13 - (m + 1)) (m + 1) := by
  obtain ⟨n, hn⟩ : ∃ n, 13 - m = n + 1 := ⟨12 - m, by omega⟩
  rw [hn, goM, if_pos h, if_pos hc, show 13 - (m + 1) = n by omega]

theorem goM_hit {nm bh : ByteArray} {N pc m : Nat} (hm : m < 13) (h : ((mText m N).toList == bh.toList) = true) (hc : (codeOf nm (m : Int) == -1) = false) : goM nm bh N pc (13 - m) m = iBytes (codeOf nm (m : Int)).toNat m N pc := by
  obtain ⟨n, hn⟩ : ∃ n, 13 - m = n + 1 := ⟨12 - m, by omega⟩
  rw [hn, goM, if_pos h, if_neg (by simp [hc])]

theorem codeFrom_range (s : ByteArray) (m : Int) : ∀ (n i : Nat), i + n ≤ 256 → codeFrom s m n i = -1 ∨ ∃ c : Nat, c < 256 ∧ codeFrom s m n i = c ∧ hasOp s m c = true
  | 0, i, _ => .inl rfl
  | n + 1, i, h => by
    rw [codeFrom]
    split
    · rename_i hh
      exact .inr ⟨i, by omega, rfl, hh⟩
    · exact codeFrom_range s m n (i + 1) (by omega)

theorem codeOf_range (s : ByteArray) (m : Int) : codeOf s m = -1 ∨ ∃ c : Nat, c < 256 ∧ codeOf s m = c ∧ hasOp s m c = true ∧ s.toList.isEmpty = false := by
  unfold codeOf
  split
  · exact .inl rfl
  · rename_i hs
    rcases codeFrom_range s m 256 0 (by omega) with h | ⟨c, h1, h2, h3⟩
    · exact .inl h
    · exact .inr ⟨c, h1, h2, h3, by simpa using hs⟩

theorem mText_size (m N : Nat) (h : m < 13) : (mText m N).size ≤ 48 := by
  unfold mText
  split
  · rcases m with _ | _ | m
    · decide
    · decide
    · omega
  · exact tX_size m (by omega) h N

theorem ownB_mono {w : World} {B B' : Nat} {v : Value} {L : List Nat} (h : OwnB w B v L) (hB : B' ≤ B) : OwnB w B' v L := ⟨h.1, h.2.1, by
  rcases h.2.2 with h2 | ⟨g, cap, cur, e, hg, r⟩
  · exact .inl h2
  · exact .inr ⟨g, cap, cur, e, Nat.le_trans hB hg, r⟩⟩

set_option maxRecDepth 100000 in
set_option maxHeartbeats 4000000 in
theorem read_by (s nm D bh : ByteArray) (N pc : Nat) (hN : N ≤ 65535) (hp : pc < 65536) (hnm : (nm.size : Int) ≤ (s.size : Int)) (hb : s.extract nm.size s.size = bh)
    (HC : ∀ w, Calls Try.prog 39 #[.string s, .string ⟨#[32]⟩] w fun e w' => ∃ ok, e = .returned (.tuple #[.string nm, .string D, .bool ok]) ∧ ∃ n, w' = w.drewN n)
    (HN : ∀ w, Calls Try.prog 40 #[.string bh] w fun e w' => e = .returned (.int .i64 N) ∧ Below w.heap.size w w') (w : World) :
    Calls Try.prog 13 #[.string s, .int .u16 pc] w fun e w' => ∃ v, e = .returned (.tuple #[v, .bool (goM nm bh N pc 13 0).isSome]) ∧ OwnB w' w.heap.size v ((goM nm bh N pc 13 0).getD []) ∧ Below w.heap.size w w' := by
  have c0 : (0 : Int) ≤ (nm.size : Int) := by omega
  have HB := Lib.hid hb
  clear hb
  go_enter Try.func13, Try.ntmps13
  go_wp2_with fail
  refine (HC _).mono ?_
  rintro e w' ⟨ok, rfl, n, rfl⟩
  have hbw : Below w.heap.size w (w.drewN n) := below_drewN (Below.refl _ _) n
  generalize w.drewN n = W at hbw ⊢
  go_wp2_with fail
  rw [HB.out]
  refine (HN _).mono ?_
  rintro e w1 ⟨rfl, b1⟩
  have q1 := bstep hbw b1
  clear hbw b1
  go_wp2_with fail
  refine (modeTexts_any _).mono ?_
  rintro e w2 ⟨rfl, b2, cM⟩
  have q2 := bstep q1 b2
  clear q1 b2
  generalize w1.heap.size = B at cM ⊢
  go_wp2
  go_loopw [27] (fun i wr => ∃ m : Nat, m ≤ 13 ∧ i = .int .i64 m ∧ Below w.heap.size w wr ∧ MtC wr B ∧ Hid (goM nm bh N pc (13 - m) m = goM nm bh N pc 13 0)) (fun i _ => 13 - (intOf i).toNat)
  case atStart => exact ⟨0, by omega, rfl, q2, cM, Lib.hid rfl⟩
  case round =>
    obtain ⟨m, hm13, rfl, hb, cMr, H⟩ := hrel
    clear q2 cM HC HN HB
    by_cases hp13 : m < 13
    · by_cases hlo : m < 2
      · have hidx := fixIdx m hlo B
        have hcall := fixCalls m hlo (N : Int)
        have eX : fX m = mText m N := by simp [mText, hlo]
        generalize m + 1 = q at hidx hcall
        rw [eX] at hcall
        clear eX hlo
        have hX : (mText m N).size ≤ 48 := mText_size m N hp13
        have HHM : ((mText m N).toList == bh.toList) = false → Hid (goM nm bh N pc (13 - m) m = goM nm bh N pc (13 - (m + 1)) (m + 1)) := fun h => Lib.hid (goM_miss hp13 h)
        have HHN : ((mText m N).toList == bh.toList) = true → (codeOf nm (m : Int) == -1) = true → Hid (goM nm bh N pc (13 - m) m = goM nm bh N pc (13 - (m + 1)) (m + 1)) := fun h h2 => Lib.hid (goM_none hp13 h h2)
        have HHH : ((mText m N).toList == bh.toList) = true → (codeOf nm (m : Int) == -1) = false → Hid (goM nm bh N pc (13 - m) m = iBytes (codeOf nm (m : Int)).toNat m N pc) := fun h h2 => Lib.hid (goM_hit hp13 h h2)
        generalize mText m N = X at hcall hX HHM HHN HHH
        cases hT : (X.toList == bh.toList) with
        | false =>
          have HH := HHM hT
          clear HHM HHN HHH
          go_wp2_with fail
          refine (hcall _ B cMr).mono ?_
          rintro e w3 ⟨rfl, b3⟩
          go_wp2
          go_roundw
          case rel => exact ⟨m + 1, by omega, by go_num, bstep hb b3, cMr.keep b3, Lib.hid (by rw [← HH.out, H.out])⟩
          case measure => simp [intOf]; omega
        | true =>
          have HHN := HHN hT
          have HHH := HHH hT
          clear HHM
          go_wp2_with fail
          refine (hcall _ B cMr).mono ?_
          rintro e w3 ⟨rfl, b3⟩
          have qb := bstep hb b3
          have qM := cMr.keep b3
          clear hcall hidx hb cMr b3
          rcases codeOf_range nm (m : Int) with hc | ⟨c, hc1, hc2, _⟩
          · have HH := HHN (by rw [hc]; rfl)
            have HCd : Hid (codeOf nm (m : Int) = -1) := Lib.hid hc
            clear HHN HHH hc
            go_wp2_with fail
            refine (implCode nm (m : Int) _).mono ?_
            rintro e w4 ⟨rfl, b4⟩
            rw [HCd.out]
            go_wp2
            go_roundw
            case rel => exact ⟨m + 1, by omega, by go_num, bstep qb b4, qM.keep b4, Lib.hid (by rw [← HH.out, H.out])⟩
            case measure => simp [intOf]; omega
          · have HH := HHH (by rw [hc2]; exact beq_eq_false_iff_ne.2 (by omega))
            have HCd : Hid (codeOf nm (m : Int) = (c : Int)) := Lib.hid hc2
            have hcn : ((c : Int) == -1) = false := beq_eq_false_iff_ne.2 (by omega)
            clear HHN HHH hc2
            go_wp2_with fail
            refine (implCode nm (m : Int) _).mono ?_
            rintro e w4 ⟨rfl, b4⟩
            rw [HCd.out]
            go_wp2_with fail
            refine (opB_any c N pc (m : Int) hc1 (by omega) hp _).mono ?_
            rintro e w5 ⟨v, rfl, ho, b5⟩
            have q5 := bstep (bstep qb b4) b5
            have EQ : Hid (iBytes c (m : Int) N pc = goM nm bh N pc 13 0) := Lib.hid (by rw [← H.out, HH.out, HCd.out]; rfl)
            go_wp2
            go_ret2
            rw [EQ.out] at ho ⊢
            exact ⟨v, rfl, ownB_mono ho (bstep qb b4).size, q5⟩
      · have h2m : 2 ≤ m := by omega
        have hidx := numIdx m h2m hp13 B
        have hcall := numCalls m h2m hp13 N hN
        have eX : tX m N = mText m N := by simp [mText, hlo]
        generalize 3 * m - 3 = q at hidx hcall
        rw [eX] at hcall
        clear eX hlo
        have hX : (mText m N).size ≤ 48 := mText_size m N hp13
        have HHM : ((mText m N).toList == bh.toList) = false → Hid (goM nm bh N pc (13 - m) m = goM nm bh N pc (13 - (m + 1)) (m + 1)) := fun h => Lib.hid (goM_miss hp13 h)
        have HHN : ((mText m N).toList == bh.toList) = true → (codeOf nm (m : Int) == -1) = true → Hid (goM nm bh N pc (13 - m) m = goM nm bh N pc (13 - (m + 1)) (m + 1)) := fun h h2 => Lib.hid (goM_none hp13 h h2)
        have HHH : ((mText m N).toList == bh.toList) = true → (codeOf nm (m : Int) == -1) = false → Hid (goM nm bh N pc (13 - m) m = iBytes (codeOf nm (m : Int)).toNat m N pc) := fun h h2 => Lib.hid (goM_hit hp13 h h2)
        generalize mText m N = X at hcall hX HHM HHN HHH
        cases hT : (X.toList == bh.toList) with
        | false =>
          have HH := HHM hT
          clear HHM HHN HHH
          go_wp2_with fail
          refine (hcall _ B cMr).mono ?_
          rintro e w3 ⟨rfl, b3⟩
          go_wp2
          go_roundw
          case rel => exact ⟨m + 1, by omega, by go_num, bstep hb b3, cMr.keep b3, Lib.hid (by rw [← HH.out, H.out])⟩
          case measure => simp [intOf]; omega
        | true =>
          have HHN := HHN hT
          have HHH := HHH hT
          clear HHM
          go_wp2_with fail
          refine (hcall _ B cMr).mono ?_
          rintro e w3 ⟨rfl, b3⟩
          have qb := bstep hb b3
          have qM := cMr.keep b3
          clear hcall hidx hb cMr b3
          rcases codeOf_range nm (m : Int) with hc | ⟨c, hc1, hc2, _⟩
          · have HH := HHN (by rw [hc]; rfl)
            have HCd : Hid (codeOf nm (m : Int) = -1) := Lib.hid hc
            clear HHN HHH hc
            go_wp2_with fail
            refine (implCode nm (m : Int) _).mono ?_
            rintro e w4 ⟨rfl, b4⟩
            rw [HCd.out]
            go_wp2
            go_roundw
            case rel => exact ⟨m + 1, by omega, by go_num, bstep qb b4, qM.keep b4, Lib.hid (by rw [← HH.out, H.out])⟩
            case measure => simp [intOf]; omega
          · have HH := HHH (by rw [hc2]; exact beq_eq_false_iff_ne.2 (by omega))
            have HCd : Hid (codeOf nm (m : Int) = (c : Int)) := Lib.hid hc2
            have hcn : ((c : Int) == -1) = false := beq_eq_false_iff_ne.2 (by omega)
            clear HHN HHH hc2
            go_wp2_with fail
            refine (implCode nm (m : Int) _).mono ?_
            rintro e w4 ⟨rfl, b4⟩
            rw [HCd.out]
            go_wp2_with fail
            refine (opB_any c N pc (m : Int) hc1 (by omega) hp _).mono ?_
            rintro e w5 ⟨v, rfl, ho, b5⟩
            have q5 := bstep (bstep qb b4) b5
            have EQ : Hid (iBytes c (m : Int) N pc = goM nm bh N pc 13 0) := Lib.hid (by rw [← H.out, HH.out, HCd.out]; rfl)
            go_wp2
            go_ret2
            rw [EQ.out] at ho ⊢
            exact ⟨v, rfl, ownB_mono ho (bstep qb b4).size, q5⟩
    · obtain rfl : m = 13 := by omega
      have HH : Hid (goM nm bh N pc 13 0 = none) := Lib.hid (by rw [← H.out]; rfl)
      go_wp2
      go_ret2
      rw [HH.out]
      exact ⟨_, rfl, ownNil _ _, hb⟩

end Go.Proofs.Ytffhjoldiicgdaa
