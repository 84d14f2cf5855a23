/-
  Contracts over the program: spec.HexText and impl.HexText: both write the same digits.
-/
import Derived.Test.YtppkcljpfjdlnaaDig
import Derived.Test.YtppkcljpfjdlnaaHexNum
import Derived.OwnWalk
namespace Go.Proofs.Ytppkcljpfjdlnaa
set_option linter.unusedVariables false
set_option linter.unusedSimpArgs false
open Go.RowKit

theorem ret_text {a b : ByteArray} (h : a = b) : Ending.returned (.string a) = .returned (.string b) := by rw [h]

theorem specHexText_yes (N d : Nat) (hN : N ≤ 9223372036854775807) (h1 : 1 ≤ d) (h8 : d ≤ 8) (w : World) :
    Calls Try.prog 63 #[.int .i64 N, .int .i64 d] w fun e w' => e = .returned (.string ⟨(hexL d N).toArray⟩) ∧ w = w' := by
  have HB := Lib.hid (show (decide (1 ≤ (d : Int)) && decide ((d : Int) ≤ 8)) = true by simp; omega)
  go_enter Try.func63, Try.ntmps63
  go_wp2_with fail
  refine (in_any _ _ _ _).mono ?_
  rintro e w' ⟨rfl, rfl⟩
  rw [HB.out]
  go_wp2
  go_loop [0, 5, 6] (fun n out i => ∃ (k m : Nat) (L : List UInt8), k ≤ d ∧ m ≤ N ∧ L.length ≤ k ∧ n = .int .i64 m ∧ i = .int .i64 k ∧ out = .string ⟨L.toArray⟩ ∧ Hid (hexL (d - k) m ++ L = hexL d N)) (fun _ _ i => d - (intOf i).toNat)
  case atStart => exact ⟨0, N, [], Nat.zero_le _, Nat.le_refl _, Nat.le_refl _, rfl, rfl, rfl, Lib.hid (by simp)⟩
  case round =>
    obtain ⟨k, m, L, hk, hm, hL, rfl, rfl, rfl, H⟩ := hrel
    by_cases hp : k < d
    · go_wp2
      go_round
      case rel => exact ⟨k + 1, m / 16, hexD (m % 16) :: L, by omega, by omega, by simp; omega, by go_num, by go_num, by rw [← hexS_append _ (by omega)], Lib.hid (by rw [← H.out, hexL_step d k m L hp])⟩
      case measure => simp [intOf]; omega
    · go_wp2
      go_ret; exact ⟨ret_text (by rw [← H.out, show d - k = 0 by omega, hexL]; rfl), rfl⟩

theorem specHexText_no (n d : Int) (h : n < 0 ∨ d < 1 ∨ 8 < d) (w : World) :
    Calls Try.prog 63 #[.int .i64 n, .int .i64 d] w fun e w' => e = .returned (.string ByteArray.empty) ∧ w = w' := by
  by_cases hn : n < 0
  · clear h
    go_enter Try.func63, Try.ntmps63
    go_wp2
    go_ret; exact ⟨rfl, rfl⟩
  · have HB := Lib.hid (show (decide (1 ≤ d) && decide (d ≤ 8)) = false by simp; omega)
    clear h
    go_enter Try.func63, Try.ntmps63
    go_wp2_with fail
    refine (in_any _ _ _ _).mono ?_
    rintro e w' ⟨rfl, rfl⟩
    rw [HB.out]
    go_wp2
    go_ret; exact ⟨rfl, rfl⟩

theorem specHexText_any (n d : Int) (h1 : n ≤ 9223372036854775807) (w : World) :
    Calls Try.prog 63 #[.int .i64 n, .int .i64 d] w fun e w' => e = .returned (.string ⟨(hexT n d).toArray⟩) ∧ w = w' := by
  by_cases h : n < 0 ∨ d < 1 ∨ 8 < d
  · rw [hexT_no n d h]; exact specHexText_no n d h w
  · obtain ⟨N, rfl⟩ := Int.eq_ofNat_of_zero_le (show 0 ≤ n by omega)
    obtain ⟨D, rfl⟩ := Int.eq_ofNat_of_zero_le (show 0 ≤ d by omega)
    have e := hexT_yes N D (by omega) (by omega)
    rw [show hexT (↑N) (↑D) = hexL D N from e]
    exact specHexText_yes N D (by omega) (by omega) (by omega) w

theorem implHexText_no (n d : Int) (h : n < 0 ∨ d < 1 ∨ 8 < d) (w : World) :
    Calls Try.prog 76 #[.int .i64 n, .int .i64 d] w fun e w' => e = .returned (.string ByteArray.empty) ∧ w = w' := by
  by_cases hn : n < 0
  · clear h
    go_enter Try.func76, Try.ntmps76
    go_wp2
    go_ret; exact ⟨rfl, rfl⟩
  · have HB := Lib.hid (show (decide (1 ≤ d) && decide (d ≤ 8)) = false by simp; omega)
    clear h
    go_enter Try.func76, Try.ntmps76
    go_wp2_with fail
    refine (hexok_any _ _).mono ?_
    rintro e w' ⟨rfl, rfl⟩
    rw [HB.out]
    go_wp2
    go_ret; exact ⟨rfl, rfl⟩

theorem infoByte : (Try.prog.info? 5).map (fun i => (i.zero, i.size, i.bytes)) = some (some (.int .u8 0), 1, 1) := by kernel_rfl

set_option maxRecDepth 100000 in
theorem makeBytes (d : Nat) (h : d ≤ 1048576) (w : World) : (Instr.makeSlice 22 (.int .i64 (d : Int)) (.int .i64 (d : Int))).run Try.prog w =
    .ok (.slice (some ⟨w.heap.size, 0, none⟩) d d) (w.alloc (.cells (List.replicate d (Value.int .u8 0)).toArray 5)) := by
  obtain ⟨i0, hi, hz0, hz1, hz2⟩ := info_parts infoByte
  have hr := run_make (P := Try.prog) w 22 5 i0 (.int .u8 0) Try.underlying22 hi hz0 .i64 .i64 d d (by omega) (by omega) (by rw [hz2]; omega) (by omega)
  simp only [Int.toNat_natCast] at hr
  rw [hr, hz1, Nat.mul_one]
  congr 3
  exact madeCells_one _ _

theorem implHexText_yes (N d : Nat) (hN : N ≤ 9223372036854775807) (h1 : 1 ≤ d) (h8 : d ≤ 8) (w : World) :
    Calls Try.prog 76 #[.int .i64 N, .int .i64 d] w fun e w' => e = .returned (.string ⟨(hexL d N).toArray⟩) ∧ ∃ C, w' = w.alloc (.cells C 5) := by
  have HB := Lib.hid (show (decide (1 ≤ (d : Int)) && decide ((d : Int) ≤ 8)) = true by simp; omega)
  have hmk := fun w => makeBytes d (by omega) w
  go_enter Try.func76, Try.ntmps76
  go_wp2_with fail
  refine (hexok_any _ _).mono ?_
  rintro e w' ⟨rfl, rfl⟩
  rw [HB.out]
  go_wp2
  clear hmk
  go_loopw [0, 6] (fun n i w' => ∃ (k m : Nat) (v : Int) (C : Array Value) (L : List UInt8), k ≤ d ∧ m ≤ N ∧ Hid (v = (k : Int) - 1) ∧ n = .int .i64 m ∧ i = .int .i64 v ∧ w' = w.alloc (.cells C 5) ∧ Hid (k + L.length = d ∧ C = (List.replicate k (Value.int .u8 0) ++ L.map cellOf).toArray ∧ hexL k m ++ L = hexL d N)) (fun _ i _ => (intOf i + 1).toNat)
  case atStart => exact ⟨d, N, _, _, [], Nat.le_refl _, Nat.le_refl _, Lib.hid rfl, rfl, rfl, rfl, Lib.hid ⟨rfl, by simp, by simp⟩⟩
  case round =>
    obtain ⟨k, m, v, C, L, hk, hm, HV, rfl, rfl, rfl, H⟩ := hrel
    cases k with
    | zero =>
      obtain rfl : v = -1 := by have := HV.out; omega
      have hcv := fun (W : World) (hc : ∀ i, i < d → W.cell? ⟨w.heap.size, 0 + i, none⟩ = some (.int .u8 ((L.map fun b => (b.toNat : Int)).getD i 0))) => run_convert_bytes_arg (P := Try.prog) W 22 5 Try.underlying22 Try.underlying5 w.heap.size 0 d d (L.map fun b => (b.toNat : Int)) (by have := H.out.1; simp; omega) hc 9 Try.underlying9
      have hcv' := hcv (w.alloc (.cells C 5)) (fun i hi => by
        obtain ⟨e1, e2, _⟩ := H.out
        have hiL : i < L.length := by omega
        rw [World.cell?_alloc_at _ _ _ _ rfl, e2]
        simp [cellOf, hiL])
      rw [strOf_cells] at hcv'
      clear hcv
      go_wp2
      go_ret; exact ⟨ret_text (by rw [← H.out.2.2, hexL]; rfl), _, rfl⟩
    | succ j =>
      obtain rfl : v = (j : Int) := by have := HV.out; omega
      have hcj : C[j]? = some (.int .u8 0) := by rw [H.out.2.1]; exact row_at j L
      go_wp2
      go_roundw
      case rel =>
        obtain ⟨e1, e2, e3⟩ := H.out
        refine ⟨j, m / 16, _, _, hexD (m % 16) :: L, by omega, by omega, Lib.hid rfl, by go_num, rfl, rfl, Lib.hid ⟨by simp; omega, ?_, ?_⟩⟩
        · have e4 := hexS_at ⟨m % 16, by omega⟩
          have e5 : Value.int .u8 (hexS[m % 16]'(Nat.mod_lt _ (by decide))).toNat = cellOf (hexD (m % 16)) := by rw [e4]; rfl
          rw [← row_set, ← e2, ← e5]
        · rw [← e3, hexL]; simp
      case measure => simp [intOf]

theorem implHexText_any (n d : Int) (h1 : n ≤ 9223372036854775807) (w : World) :
    Calls Try.prog 76 #[.int .i64 n, .int .i64 d] w fun e w' => e = .returned (.string ⟨(hexT n d).toArray⟩) ∧ (w = w' ∨ ∃ C, w' = w.alloc (.cells C 5)) := by
  by_cases h : n < 0 ∨ d < 1 ∨ 8 < d
  · rw [hexT_no n d h]; exact (implHexText_no n d h w).mono fun e w' ⟨he, hw⟩ => ⟨he, .inl hw⟩
  · obtain ⟨N, rfl⟩ := Int.eq_ofNat_of_zero_le (show 0 ≤ n by omega)
    obtain ⟨D, rfl⟩ := Int.eq_ofNat_of_zero_le (show 0 ≤ d by omega)
    have e := hexT_yes N D (by omega) (by omega)
    rw [show hexT (↑N) (↑D) = hexL D N from e]
    exact (implHexText_yes N D (by omega) (by omega) (by omega) w).mono fun e w' ⟨he, hw⟩ => ⟨he, .inr hw⟩

end Go.Proofs.Ytppkcljpfjdlnaa
