/-
  Contracts over the program: spec.l01In, spec.l01Digit, impl.hexDigitsOk, impl.digitOf, impl.readDigits.
-/
import Derived.Test.YtppkcljpfjdlnaaRows
import Derived.Test.YtppkcljpfjdlnaaNum
import Derived.WalkKit
import Derived.WalkSpells
import Derived.WalkLawsBesides
import Derived.Laws.RangeAny
import Derived.Lib.Hide
import Derived.Deep.DeepMust
namespace Go.Proofs.Ytppkcljpfjdlnaa
set_option linter.unusedVariables false
set_option linter.unusedSimpArgs false
open Go.RowKit

theorem ret_int {k : IntKind} {a b : Int} (h : a = b) : Ending.returned (.int k a) = .returned (.int k b) := by rw [h]

theorem in_any (x a b : Int) (w : World) :
    Calls Try.prog 78 #[.int .i64 x, .int .i64 a, .int .i64 b] w fun e w' => e = .returned (.bool (decide (a ≤ x) && decide (x ≤ b))) ∧ w = w' := by
  go_enter Try.func78, Try.ntmps78
  go_wp2
  all_goals (go_ret; refine ⟨?_, rfl⟩; first | (simp [*]; done) | (simp [*]; omega))

theorem ldigit_any (x : Int) (h0 : 0 ≤ x) (h1 : x < 256) (w : World) :
    Calls Try.prog 80 #[.int .u8 x] w fun e w' => e = .returned (.bool (decide (48 ≤ x) && decide (x ≤ 57))) ∧ w = w' := by
  go_enter Try.func80, Try.ntmps80
  go_wp2_with fail
  refine (in_any _ _ _ _).mono ?_
  rintro e w' ⟨rfl, rfl⟩
  go_wp2
  go_ret; exact ⟨rfl, rfl⟩

theorem hexok_any (x : Int) (w : World) :
    Calls Try.prog 84 #[.int .i64 x] w fun e w' => e = .returned (.bool (decide (1 ≤ x) && decide (x ≤ 8))) ∧ w = w' := by
  go_enter Try.func84, Try.ntmps84
  go_wp2
  all_goals (go_ret; refine ⟨?_, rfl⟩; first | (simp [*]; done) | (simp [*]; omega))

theorem digitOf_any (c : Int) (h0 : 0 ≤ c) (h1 : c ≤ 2147483647) (w : World) :
    Calls Try.prog 90 #[.int .i32 c] w fun e w' => e = .returned (.int .i64 (dig c)) ∧ w = w' := by
  by_cases a1 : 48 ≤ c ∧ c ≤ 57
  · obtain ⟨a1, a2⟩ := a1
    have H := Lib.hid (show dig c = c - 48 by unfold dig; rw [if_pos ⟨a1, a2⟩])
    go_enter Try.func90, Try.ntmps90
    go_wp2
    go_ret; exact ⟨ret_int H.out.symm, rfl⟩
  · by_cases a3 : 65 ≤ c ∧ c ≤ 70
    · obtain ⟨a3, a4⟩ := a3
      have H := Lib.hid (show dig c = c - 65 + 10 by unfold dig; rw [if_neg a1, if_pos ⟨a3, a4⟩]; omega)
      clear a1
      go_enter Try.func90, Try.ntmps90
      go_wp2
      go_ret; exact ⟨ret_int H.out.symm, rfl⟩
    · have H := Lib.hid (show dig c = -1 by unfold dig; rw [if_neg a1, if_neg a3])
      have A1 := Lib.hid a1
      have A3 := Lib.hid a3
      clear a1 a3
      go_enter Try.func90, Try.ntmps90
      go_wp2
      all_goals first
        | (go_ret; exact ⟨ret_int H.out.symm, rfl⟩)
        | (exfalso; exact A1.out ⟨by assumption, by assumption⟩)
        | (exfalso; exact A3.out ⟨by assumption, by assumption⟩)

/-- impl.readDigits at a short text: the number that its signs are in the base, -1 where one is none. -/
theorem readDigits_any (s : ByteArray) (base : Int) (w : World) (hs : s.size ≤ 9) (hb0 : 2 ≤ base) (hb1 : base ≤ 16) :
    Calls Try.prog 85 #[.string s, .int .i64 base] w fun e w' => e = .returned (.int .i64 (rd base s.data.toList 0)) ∧ ∃ p, w' = w.iter s p := by
  go_enter Try.func85, Try.ntmps85
  go_wp2
  go_loopw [5] (fun n w' => ∃ (k : Nat) (a : Int), k ≤ s.size ∧ 0 ≤ a ∧ a < 16 ^ k ∧ w' = w.iter s k ∧ n = .int .i64 a ∧ Hid (rd base (s.data.toList.drop k) a = rd base s.data.toList 0)) (fun _ w' => s.size - w'.iterPos w.heap.size)
  case atStart => exact ⟨0, 0, Nat.zero_le _, by omega, by simp, rfl, rfl, Lib.hid (by simp)⟩
  case round =>
    obtain ⟨k, a, hk, ha0, ha1, rfl, rfl, H⟩ := hrel
    by_cases hp : k < s.size
    · by_cases has : (s[k]'hp).toNat < 128
      · have hnx : ∀ ty, (Instr.next (.pointer (some ⟨w.heap.size, 0, none⟩)) true ty).run Try.prog (w.iter s k) = _ := fun ty => run_next_ascii w s k ty hp has
        have hdl := dig_le (s[k]'hp).toNat
        by_cases hd : dig (s[k]'hp).toNat < 0 ∨ base ≤ dig (s[k]'hp).toNat
        · have HS := Lib.hid (rd_stop base s k a hp hd)
          go_wp2_with fail
          refine (digitOf_any _ (by omega) (by omega) _).mono ?_
          rintro e w' ⟨rfl, rfl⟩
          rcases hd with hd | hd
          · go_wp2
            go_ret; exact ⟨ret_int (by rw [← H.out, HS.out]), _, rfl⟩
          · have hd0 : 0 ≤ dig (s[k]'hp).toNat := by omega
            go_wp2
            go_ret; exact ⟨ret_int (by rw [← H.out, HS.out]), _, rfl⟩
        · have hd0 : 0 ≤ dig (s[k]'hp).toNat := by omega
          have hd1 : dig (s[k]'hp).toNat < base := by omega
          have HS := Lib.hid (rd_go base s k a hp hd0 hd1)
          have hpl := pow_le16 k (by omega)
          have hst := pow_step base a (dig (s[k]'hp).toNat) k ha0 ha1 hb1 (by omega)
          have hm0 : 0 ≤ a * base := Int.mul_nonneg ha0 (by omega)
          have hm1 : a * base ≤ a * 16 := Int.mul_le_mul_of_nonneg_left hb1 ha0
          clear hd
          go_wp2_with fail
          refine (digitOf_any _ (by omega) (by omega) _).mono ?_
          rintro e w' ⟨rfl, rfl⟩
          go_wp2
          go_roundw
          case rel => exact ⟨k + 1, _, by omega, by omega, hst, rfl, rfl, Lib.hid (by rw [← H.out, HS.out])⟩
          case measure => simp; omega
      · have hdh := decode_high s k hp (by omega)
        have hle := decode_le s k
        have hneg : dig (Utf8.decode s k).1 < 0 := by rw [dig_high _ (by omega)]; omega
        have HS := Lib.hid (rd_stop base s k a hp (.inl (by rw [dig_high _ (by omega)]; omega)))
        have hnx : ∀ ty, (Instr.next (.pointer (some ⟨w.heap.size, 0, none⟩)) true ty).run Try.prog (w.iter s k) = _ := fun ty => run_next_any w s k ty hp
        go_wp2_with fail
        refine (digitOf_any _ (by omega) (by omega) _).mono ?_
        rintro e w' ⟨rfl, rfl⟩
        go_wp2
        go_ret; exact ⟨ret_int (by rw [← H.out, HS.out]), _, rfl⟩
    · have hnx : ∀ ty, (Instr.next (.pointer (some ⟨w.heap.size, 0, none⟩)) true ty).run Try.prog (w.iter s k) = _ := fun ty => run_next_end w s k ty hp
      have HE := Lib.hid (rd_end base s k a (by omega))
      go_wp2
      go_ret; exact ⟨ret_int (by rw [← H.out, HE.out]), _, rfl⟩

end Go.Proofs.Ytppkcljpfjdlnaa
