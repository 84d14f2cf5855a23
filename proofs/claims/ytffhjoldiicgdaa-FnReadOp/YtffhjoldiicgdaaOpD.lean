/-
  Contracts over the program: the byte of a name and a mode (CodeOf), the model's.
-/
import Derived.Test.YtffhjoldiicgdaaOpC
namespace Go.Proofs.Ytffhjoldiicgdaa
set_option linter.unusedVariables false
set_option linter.unusedSimpArgs false
open Go.RowKit

/-- Does byte i bear that name and mode? -/
def hasOp (s : ByteArray) (m : Int) (i : Nat) : Bool := ((opName i).toList == s.toList) && (opMode i == m)

def codeFrom (s : ByteArray) (m : Int) : Nat → Nat → Int
  | 0, _ => -1
  | n + 1, i => if hasOp s m i then (i : Int) else codeFrom s m n (i + 1)

def codeOf (s : ByteArray) (m : Int) : Int := if s.toList.isEmpty then -1 else codeFrom s m 256 0

theorem codeFrom_hit {s : ByteArray} {m : Int} {j : Nat} (hj : j < 256) (h : hasOp s m j = true) : codeFrom s m (256 - j) j = j := by
  obtain ⟨n, hn⟩ : ∃ n, 256 - j = n + 1 := ⟨255 - j, by omega⟩
  rw [hn, codeFrom, if_pos h]

theorem codeFrom_miss {s : ByteArray} {m : Int} {j : Nat} (hj : j < 256) (h : hasOp s m j = false) : codeFrom s m (256 - j) j = codeFrom s m (256 - (j + 1)) (j + 1) := by
  obtain ⟨n, hn⟩ : ∃ n, 256 - j = n + 1 := ⟨255 - j, by omega⟩
  have hn2 : 256 - (j + 1) = n := by omega
  rw [hn, hn2, codeFrom, if_neg (by simp [h])]

set_option maxRecDepth 100000 in
theorem specCode_empty (s : ByteArray) (m : Int) (w : World) (he : s.toList.isEmpty = true) :
    Calls Try.prog 25 #[.string s, .int .i64 m] w fun e w' => e = .returned (.int .i64 (-1)) ∧ Below w.heap.size w w' := by
  go_enter Try.func25, Try.ntmps25
  go_wp2
  go_loopw [5] (fun i wr => ∃ j : Nat, j ≤ 256 ∧ i = .int .i64 j ∧ wr = w) (fun i _ => 256 - (intOf i).toNat)
  case atStart => exact ⟨0, by omega, rfl, rfl⟩
  case round =>
    obtain ⟨j, hj, rfl, rfl⟩ := hrel
    by_cases hp : j < 256
    · go_wp2
      go_roundw
      case rel => exact ⟨j + 1, by omega, by go_num, trivial⟩
      case measure => simp [intOf]; omega
    · go_wp2
      go_ret
      exact ⟨rfl, Below.refl _ _⟩

set_option maxRecDepth 100000 in
theorem specCode_name (s : ByteArray) (m : Int) (w : World) (he : s.toList.isEmpty = false) :
    Calls Try.prog 25 #[.string s, .int .i64 m] w fun e w' => e = .returned (.int .i64 (codeFrom s m 256 0)) ∧ Below w.heap.size w w' := by
  go_enter Try.func25, Try.ntmps25
  go_wp2
  go_loopw [5] (fun i wr => ∃ j : Nat, j ≤ 256 ∧ i = .int .i64 j ∧ Below w.heap.size w wr ∧ Hid (codeFrom s m (256 - j) j = codeFrom s m 256 0)) (fun i _ => 256 - (intOf i).toNat)
  case atStart => exact ⟨0, by omega, rfl, Below.refl _ _, Lib.hid rfl⟩
  case round =>
    obtain ⟨j, hj, rfl, hb, H⟩ := hrel
    by_cases hp : j < 256
    · cases hN : ((opName j).toList == s.toList) with
      | false =>
        have HH := Lib.hid (codeFrom_miss (s := s) (m := m) hp (by simp [hasOp, hN]))
        go_wp2_with fail
        refine (specName_any j hp _).mono ?_
        rintro e w1 ⟨rfl, hb1⟩
        go_wp2
        go_roundw
        case rel => exact ⟨j + 1, by omega, by go_num, hb.trans (hb1.mono hb.size), Lib.hid (by rw [← HH.out, H.out])⟩
        case measure => simp [intOf]; omega
      | true =>
        cases hM : (opMode j == m) with
        | false =>
          have HH := Lib.hid (codeFrom_miss (s := s) (m := m) hp (by simp [hasOp, hM]))
          go_wp2_with fail
          refine (specName_any j hp _).mono ?_
          rintro e w1 ⟨rfl, hb1⟩
          go_wp2_with fail
          refine (specMode_any j hp _).mono ?_
          rintro e w2 ⟨rfl, hb2⟩
          go_wp2
          go_roundw
          case rel => exact ⟨j + 1, by omega, by go_num, (hb.trans (hb1.mono hb.size)).trans (hb2.mono (hb.trans (hb1.mono hb.size)).size), Lib.hid (by rw [← HH.out, H.out])⟩
          case measure => simp [intOf]; omega
        | true =>
          have HH := Lib.hid (codeFrom_hit (s := s) (m := m) hp (by simp [hasOp, hM, hN]))
          go_wp2_with fail
          refine (specName_any j hp _).mono ?_
          rintro e w1 ⟨rfl, hb1⟩
          go_wp2_with fail
          refine (specMode_any j hp _).mono ?_
          rintro e w2 ⟨rfl, hb2⟩
          go_wp2
          go_ret
          exact ⟨by rw [← H.out, HH.out]; rfl, (hb.trans (hb1.mono hb.size)).trans (hb2.mono (hb.trans (hb1.mono hb.size)).size)⟩
    · obtain rfl : j = 256 := by omega
      have HH : codeFrom s m 256 0 = -1 := by rw [← H.out]; rfl
      go_wp2
      go_ret
      exact ⟨by rw [HH]; rfl, hb⟩

theorem specCode_any (s : ByteArray) (m : Int) (w : World) :
    Calls Try.prog 25 #[.string s, .int .i64 m] w fun e w' => e = .returned (.int .i64 (codeOf s m)) ∧ Below w.heap.size w w' := by
  unfold codeOf
  cases he : s.toList.isEmpty with
  | true => simpa using specCode_empty s m w he
  | false => simpa using specCode_name s m w he

end Go.Proofs.Ytffhjoldiicgdaa
