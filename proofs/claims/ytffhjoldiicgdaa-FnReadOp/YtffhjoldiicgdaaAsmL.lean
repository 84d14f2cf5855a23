/-
  Contracts over the program: the number of the first digits behind a dollar sign (impl.numberIn).
-/
import Derived.Test.YtffhjoldiicgdaaAsmK
namespace Go.Proofs.Ytffhjoldiicgdaa
set_option linter.unusedVariables false
set_option linter.unusedSimpArgs false
open Go.RowKit

/-- The number of at most so many digits at a text's beginning. -/
def numK : Nat → List UInt8 → Int → Int
  | 0, _, a => a
  | _ + 1, [], a => a
  | n + 1, c :: r, a => if dig (c.toNat : Int) < 0 then a else numK n r (a * 16 + dig (c.toNat : Int))

theorem numK_stop (s : ByteArray) (k n : Nat) (a : Int) (hp : k < s.size) (h : dig (s[k]'hp).toNat < 0) : numK n (s.data.toList.drop k) a = a := by
  cases n with
  | zero => rfl
  | succ n => rw [drop_cons s k hp, numK, if_pos h]

theorem numK_go (s : ByteArray) (k : Nat) (a : Int) (hk : k < 4) (hp : k < s.size) (h : ¬ dig (s[k]'hp).toNat < 0) : numK (4 - k) (s.data.toList.drop k) a = numK (4 - (k + 1)) (s.data.toList.drop (k + 1)) (a * 16 + dig (s[k]'hp).toNat) := by
  obtain ⟨n, hn⟩ : ∃ n, 4 - k = n + 1 := ⟨3 - k, by omega⟩
  rw [hn, drop_cons s k hp, numK, if_neg h, show 4 - (k + 1) = n by omega]

theorem numK_end (s : ByteArray) (k n : Nat) (a : Int) (hp : ¬ k < s.size) : numK n (s.data.toList.drop k) a = a := by
  have hl : s.data.toList.length = s.size := Array.length_toList
  rw [List.drop_eq_nil_of_le (by omega)]
  cases n <;> rfl

theorem below_iter {w W : World} (h : Below w.heap.size w W) (s : ByteArray) (p : Nat) : Below w.heap.size w (W.iter s p) := h.alloc h.size _

theorem cutB_size (s : ByteArray) (c : UInt8) : (cutB s c).size ≤ s.size := by
  have h1 : (cutB s c).size = s.data.toList.length - (signAt s.data.toList c + 1) := by
    show (s.data.toList.drop (signAt s.data.toList c + 1)).toArray.size = _
    rw [List.size_toArray, List.length_drop]
  have hl : s.data.toList.length = s.size := Array.length_toList
  omega

set_option maxRecDepth 100000 in
theorem numberIn_by (s X D : ByteArray) (hD : D.size ≤ 1048576) (HC : ∀ w, Calls Try.prog 39 #[.string s, .string ⟨#[36]⟩] w fun e w' => ∃ ok, e = .returned (.tuple #[.string X, .string D, .bool ok]) ∧ ∃ n, w' = w.drewN n) (w : World) :
    Calls Try.prog 40 #[.string s] w fun e w' => e = .returned (.int .i64 (numK 4 D.data.toList 0)) ∧ Below w.heap.size w w' := by
  go_enter Try.func40, Try.ntmps40
  go_wp2_with fail
  refine (HC _).mono ?_
  rintro e w' ⟨ok, rfl, n, rfl⟩
  have hbw : Below w.heap.size w (w.drewN n) := below_drewN (Below.refl _ _) n
  generalize w.drewN n = W at hbw ⊢
  go_wp2
  go_loopw [6] (fun v w' => ∃ (k : Nat) (a : Int), k ≤ D.size ∧ k ≤ 4 ∧ 0 ≤ a ∧ a < 16 ^ k ∧ w' = W.iter D k ∧ v = .int .i64 a ∧ Hid (numK (4 - k) (D.data.toList.drop k) a = numK 4 D.data.toList 0)) (fun _ w' => D.size - w'.iterPos W.heap.size)
  case atStart => exact ⟨0, 0, Nat.zero_le _, by omega, by omega, by simp, rfl, rfl, Lib.hid (by simp)⟩
  case round =>
    obtain ⟨k, a, hk, hk4, ha0, ha1, rfl, rfl, H⟩ := hrel
    by_cases hp : k < D.size
    · by_cases has : (D[k]'hp).toNat < 128
      · have hnx : ∀ ty, (Instr.next (.pointer (some ⟨W.heap.size, 0, none⟩)) true ty).run Try.prog (W.iter D k) = _ := fun ty => run_next_ascii W D k ty hp has
        have hdl := dig_le (D[k]'hp).toNat
        by_cases hd : dig (D[k]'hp).toNat < 0
        · have HS := Lib.hid (numK_stop D k (4 - k) a hp hd)
          go_wp2_with fail
          refine (digitOf_any _ (by omega) (by omega) _).mono ?_
          rintro e w' ⟨rfl, rfl⟩
          go_wp2
          go_ret
          exact ⟨ret_int (by rw [← H.out, HS.out]), below_iter hbw _ _⟩
        · have hd0 : 0 ≤ dig (D[k]'hp).toNat := by omega
          by_cases h4 : k = 4
          · subst h4
            have HS : Hid (numK (4 - 4) (D.data.toList.drop 4) a = a) := Lib.hid rfl
            go_wp2_with fail
            refine (digitOf_any _ (by omega) (by omega) _).mono ?_
            rintro e w' ⟨rfl, rfl⟩
            go_wp2
            go_ret
            exact ⟨ret_int (by rw [← H.out, HS.out]), below_iter hbw _ _⟩
          · have HS := Lib.hid (numK_go D k a (by omega) hp hd)
            have hk4b : ((k : Int) == 4) = false := by simp; omega
            have hpl := pow_le16 k (by omega)
            have hst := pow_step 16 a (dig (D[k]'hp).toNat) k ha0 ha1 (by omega) (by omega)
            have hk3 : k + 1 ≤ 4 := by omega
            clear hd h4
            go_wp2_with fail
            refine (digitOf_any _ (by omega) (by omega) _).mono ?_
            rintro e w' ⟨rfl, rfl⟩
            go_wp2
            go_roundw
            case rel => exact ⟨k + 1, _, by omega, hk3, by omega, hst, rfl, rfl, Lib.hid (by rw [← H.out, HS.out])⟩
            case measure => simp; omega
      · have hdh := decode_high D k hp (by omega)
        have hle := decode_le D k
        have hneg : dig (Utf8.decode D k).1 < 0 := by rw [dig_high _ (by omega)]; omega
        have HS := Lib.hid (numK_stop D k (4 - k) a hp (by rw [dig_high _ (by omega)]; omega))
        have hnx : ∀ ty, (Instr.next (.pointer (some ⟨W.heap.size, 0, none⟩)) true ty).run Try.prog (W.iter D k) = _ := fun ty => run_next_any W D k ty hp
        go_wp2_with fail
        refine (digitOf_any _ (by omega) (by omega) _).mono ?_
        rintro e w' ⟨rfl, rfl⟩
        go_wp2
        go_ret
        exact ⟨ret_int (by rw [← H.out, HS.out]), below_iter hbw _ _⟩
    · have hnx : ∀ ty, (Instr.next (.pointer (some ⟨W.heap.size, 0, none⟩)) true ty).run Try.prog (W.iter D k) = _ := fun ty => run_next_end W D k ty hp
      have HE := Lib.hid (numK_end D k (4 - k) a hp)
      go_wp2
      go_ret
      exact ⟨ret_int (by rw [← H.out, HE.out]), below_iter hbw _ _⟩

theorem numberIn_any (s : ByteArray) (hs : s.size ≤ 1048576) (w : World) :
    Calls Try.prog 40 #[.string s] w fun e w' => e = .returned (.int .i64 (numK 4 (cutB s 36).data.toList 0)) ∧ Below w.heap.size w w' :=
  numberIn_by s (cutA s 36) (cutB s 36) (Nat.le_trans (cutB_size s 36) hs) (cut_any s 36 hs) w

end Go.Proofs.Ytffhjoldiicgdaa
