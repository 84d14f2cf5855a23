/-
  Contracts over the program: a line of a listing (impl.listingLine), and the text of a byte (impl.byteText).
-/
import Derived.Test.YtffhjoldiicgdaaShelf
import Derived.Test.YtffhjoldiicgdaaAsmD
import Derived.Test.YtffhjoldiicgdaaAsmG
import Derived.Test.YtffhjoldiicgdaaAsmH
namespace Go.Proofs.Ytffhjoldiicgdaa
set_option linter.unusedVariables false
set_option linter.unusedSimpArgs false
open Go.RowKit

theorem repeat_blank : ∀ c : Nat, Lib.repeatL [32] c = List.replicate c 32
  | 0 => by simp [Lib.repeatL]
  | c + 1 => by
    have ih := repeat_blank c
    rw [Lib.repeatL, ih, List.replicate_succ]; rfl

theorem repeat_any (c : Nat) (h1 : 1 ≤ c) (h2 : c ≤ 15) (w : World) :
    Calls Try.prog 67 #[.string ⟨#[32]⟩, .int .i64 c] w fun e w' => e = .returned (.string (strOf (List.replicate c 32))) ∧ Below w.heap.size w w' := by
  by_cases e : c = 1
  · subst e
    refine (Try.strings_Repeat_one ⟨#[32]⟩ w).mono ?_
    rintro e w' ⟨rfl, rfl⟩
    exact ⟨rfl, Below.refl _ _⟩
  · have h := Try.strings_Repeat_main ⟨#[32]⟩ c w (by omega) (by omega) (by show 1 * c ≤ _; omega) (by decide)
    rw [show (⟨#[32]⟩ : ByteArray).data.toList = [32] from rfl, repeat_blank] at h
    exact h

theorem implHex_named (x d : Nat) (hx : x ≤ 65536) (h1 : 1 ≤ d) (h8 : d ≤ 8) : ∃ t : ByteArray, t.size = d ∧ Hid (t = strOf (hexL d x)) ∧ ∀ w, Calls Try.prog 66 #[.int .i64 x, .int .i64 d] w fun e w' => e = .returned (.string t) ∧ Below w.heap.size w w' :=
  ⟨_, hexL_size d x, Lib.hid rfl, fun w => by
    have h := implHexB (x : Int) (d : Int) (by omega) w
    rw [hexT_yes x d h1 h8] at h
    exact h⟩

set_option maxRecDepth 100000 in
theorem byteText_any (x : Nat) (hx : x < 256) (w : World) :
    Calls Try.prog 42 #[.int .u8 x] w fun e w' => e = .returned (.string (⟨#[46, 98, 121, 116, 101, 32, 36]⟩ ++ strOf (hexL 2 x))) ∧ Below w.heap.size w w' := by
  obtain ⟨t, ht, HT, CT⟩ := implHex_named x 2 (by omega) (by omega) (by omega)
  rw [← HT.out]
  go_enter Try.func42, Try.ntmps42
  go_wp2_with fail
  refine (CT _).mono ?_
  rintro e w1 ⟨rfl, b1⟩
  go_wp2
  go_ret
  exact ⟨rfl, b1⟩

set_option maxRecDepth 100000 in
set_option maxHeartbeats 4000000 in
theorem line_any (g o c P : Nat) (bs : List Nat) (T : ByteArray) (h1 : 1 ≤ bs.length) (h3 : bs.length ≤ 3) (hP : P < 65536) (hT : T.size ≤ 16) (w : World) (h : RowB w (some ⟨g, o, none⟩) bs) (hg : g < w.heap.size) :
    Calls Try.prog 43 #[.slice (some ⟨g, o, none⟩) bs.length c, .int .u16 P, .string T] w fun e w' => e = .returned (.string (strOf (lineL P bs) ++ T)) ∧ Below w.heap.size w w' := by
  obtain ⟨tp, htp, HTP, CTP⟩ := implHex_named P 4 (by omega) (by omega) (by omega)
  have HR := Lib.hid h
  clear h
  go_enter Try.func43, Try.ntmps43
  go_wp2_with fail
  refine (CTP _).mono ?_
  rintro e w1 ⟨rfl, b1⟩
  go_wp2
  go_loopw [7, 16] (fun ln i wr => ∃ (j : Nat) (S : ByteArray), j ≤ bs.length ∧ S.size = 5 + 3 * j ∧ i = .int .i64 j ∧ ln = .string S ∧ Below w.heap.size w wr ∧ Hid (S = strOf (hexL 4 P ++ [58] ++ bytesL (bs.take j)))) (fun _ i _ => bs.length - (intOf i).toNat)
  case atStart => exact ⟨0, _, Nat.zero_le _, by rw [ByteArray.size_append, htp]; rfl, rfl, rfl, b1, Lib.hid (by rw [HTP.out, show (⟨#[58]⟩ : ByteArray) = strOf [58] from rfl, strOf_append]; simp [bytesL])⟩
  case round =>
    obtain ⟨j, S, hj, hS, rfl, rfl, hb, HS⟩ := hrel
    by_cases hjs : j < bs.length
    · obtain ⟨ty, hty, HTY, CTY⟩ := implHex_named (bs.getD j 0) 2 (by have := HR.out.byte j; omega) (by omega) (by omega)
      have cj := (HR.out.below hb).cell hjs
      obtain ⟨y, hy⟩ : ∃ y, bs.getD j 0 = y := ⟨_, rfl⟩
      rw [hy] at cj CTY
      have hy2 : y < 256 := by rw [← hy]; exact HR.out.byte _
      have HY := Lib.hid hy
      clear hy
      have ij : (0 : Int) ≤ (j : Int) ∧ (j : Int) < (bs.length : Int) := by omega
      go_wp2_with fail
      refine (CTY _).mono ?_
      rintro e w2 ⟨rfl, b2⟩
      go_wp2
      go_roundw
      case rel =>
        refine ⟨j + 1, _, by omega, by rw [ByteArray.size_append, ByteArray.size_append, hty, hS]; show 5 + 3 * j + (1 + 2) = _; omega, by go_num, rfl, bstep hb b2, Lib.hid ?_⟩
        rw [bytesL_step _ j hjs, HS.out, HTY.out, HY.out, show (⟨#[32]⟩ : ByteArray) = strOf [32] from rfl, strOf_append, strOf_append]
        simp
      case measure => simp [intOf]; omega
    · obtain rfl : j = bs.length := by omega
      obtain ⟨q, hq⟩ : ∃ q, 15 - S.size = q := ⟨_, rfl⟩
      have hq1 : 1 ≤ q ∧ q ≤ 15 := by omega
      have HQ := Lib.hid (show (15 : Int) - (S.size : Int) = (q : Int) by omega)
      have hSq : S.size ≤ 15 := by omega
      have HL := Lib.hid (show strOf (lineL P bs) = S ++ strOf (List.replicate q 32) by
        have hl : (hexL 4 P ++ [58] ++ bytesL bs).length = S.size := by simp [hexL_length, bytesL_len, hS]; omega
        rw [HS.out, List.take_of_length_le (Nat.le_refl _), strOf_append, lineL, padL, hl, hq])
      have hrs : (strOf (List.replicate q 32)).size = q := by simp [strOf, ByteArray.size]
      have CR := repeat_any q hq1.1 hq1.2
      generalize strOf (List.replicate q 32) = Rp at HL hrs CR
      have HJ := Lib.hid hq
      clear hq hS
      go_wp2_with fail
      rw [HQ.out]
      refine (CR _).mono ?_
      rintro e w2 ⟨rfl, b2⟩
      go_wp2
      go_ret
      exact ⟨congrArg (fun x => Ending.returned (Value.string (x ++ T))) HL.out.symm, bstep hb b2⟩

end Go.Proofs.Ytffhjoldiicgdaa
