/-
  The walks of the law FnDec: it returns true at every code.
-/
import Derived.Test.YtcblinodfgdgfaaDoorDoorDec
import Derived.Test.YtcblinodfgdgfaaDoorDrawNum
import Derived.Test.YtcblinodfgdgfaaDoorHexText
import Derived.Test.YtcblinodfgdgfaaDoorDecLaw
namespace Go.Proofs.YtcblinodfgdgfaaDoor
open Go.RowKit
open Go.Lib (itoa)

theorem big_any (a : Option Addr) (len cap : Nat) (w : World) (_hl : len ≤ 9223372036854775807) :
    Calls Tryd.prog 5 #[.slice a len cap] w fun e w' => e = .returned (.bool (decide ((1048576 : Int) < len))) ∧ w = w' := by
  go_enter Tryd.func5, Tryd.ntmps5
  go_wp2
  go_ret
  exact ⟨rfl, rfl⟩

theorem tab_kept {w w' : World} (h : Lib.TabIs Tryd.prog w "internal/strconv.uint64pow10" .u64 Lib.pow10Tab) (hb : Below w.heap.size w w') : Lib.TabIs Tryd.prog w' "internal/strconv.uint64pow10" .u64 Lib.pow10Tab := by
  have hc := h.cell gPow 0 (by decide)
  have hlt := World.block_lt_of_cell? w _ hc
  exact var?_below hb gPow hlt h

/-- What is known of a code's draws. -/
structure Dec (z : List Int) (len : Nat) (N D : Int) : Prop where
  n : drawDecV z len = N
  d : drawHexV z len = D
  lo : -9223372036854775808 ≤ N
  hi : N ≤ 9223372036854775807

theorem low_fact (d : Nat) (N mask : Int) (S : ByteArray) (hS : ByteArray.mk (hexT N d).toArray = S) (h0 : 0 ≤ N) (h1 : N ≤ 9223372036854775807) (hd1 : 1 ≤ d) (hd8 : d ≤ 8) (hm : mask = ((2 ^ (4 * d) - 1 : Nat) : Int)) : rhex S d = bits BinOp.and IntKind.i64 N mask := by
  obtain ⟨M, rfl⟩ := Int.eq_ofNat_of_zero_le h0
  rw [← hS, show hexT (M : Int) (d : Int) = hexL d M from hexT_yes M d hd1 hd8, rhex_hexT M d hd1 hd8, hm, and_mask M (4 * d) (by omega) (by omega), Nat.pow_mul]

theorem hex_pos (d : Nat) (N : Int) (S : ByteArray) (hS : ByteArray.mk (hexT N d).toArray = S) (h0 : 0 ≤ N) (hd1 : 1 ≤ d) (hd8 : d ≤ 8) : 0 < S.size := by
  obtain ⟨M, rfl⟩ := Int.eq_ofNat_of_zero_le h0
  rw [← hS, show hexT (M : Int) (d : Int) = hexL d M from hexT_yes M d hd1 hd8]
  show 0 < (hexL d M).toArray.size
  simp [hexL_length]
  omega

set_option maxRecDepth 100000 in
set_option maxHeartbeats 800000 in
theorem walkA_in (a : Option Addr) (len cap : Nat) (z : List Int) (N D : Int) (w : World) (hc : CodeRow w.heap.size w a len z) (ht : Lib.TabIs Tryd.prog w "internal/strconv.uint64pow10" .u64 Lib.pow10Tab) (hD : Dec z len N D) (h : N < 0 ∨ D < 1 ∨ 8 < D) (hN0 : 0 ≤ N) (hN1 : N ≤ 999999999) :
    Calls Tryd.prog 3 #[.slice a len cap] w fun e w' => e = .returned (.bool true) ∧ Below w.heap.size w w' := by
  have hl := hc.1
  obtain ⟨d1, d2, n0, n1⟩ := hD
  have HD1 := Lib.hid d1
  have HD2 := Lib.hid d2
  have HT := Lib.hid ht
  have HRD := Lib.hid (rdec_itoa_in N hN0 hN1)
  have hsz := itoa_size N n0 n1
  obtain ⟨T, HTT⟩ : ∃ T, Hid (ByteArray.mk (itoa N).toArray = T) := ⟨_, Lib.hid rfl⟩
  have HRT := Lib.hid (show rdec T.data.toList = N by rw [← HTT.out]; exact HRD.out)
  rw [HTT.out] at hsz
  obtain ⟨S, HS⟩ : ∃ S, Hid (ByteArray.mk (hexT N D).toArray = S) := ⟨_, Lib.hid rfl⟩
  obtain rfl : S = ByteArray.empty := by rw [← HS.out, hexT_no N D h]; rfl
  clear h
  clear d1 d2 ht
  have hbig : decide ((1048576 : Int) < len) = false := by simp; omega
  go_enter Tryd.func3, Tryd.ntmps3
  go_wp2_with fail
  refine (big_any _ _ _ _ (by omega)).mono ?_
  rintro e w' ⟨rfl, rfl⟩
  rw [hbig]
  clear hbig
  go_wp2_with fail
  refine (drawDec_any w.heap.size a len cap z w hc (Nat.le_refl _)).mono ?_
  rintro e w1 ⟨rfl, hb1⟩
  rw [HD1.out]
  have HT1 := Lib.hid (tab_kept HT.out hb1)
  go_wp2_with fail
  refine (implDecText_any N n0 n1 _ HT1.out).mono ?_
  rintro e w2 ⟨rfl, hb2⟩
  rw [HTT.out]
  have hb12 := hb1.trans (hb2.mono hb1.size)
  go_wp2_with fail
  refine (drawHex_any w.heap.size a len cap z w2 (hc.kept hb12) hb12.size).mono ?_
  rintro e w3 ⟨rfl, hb3⟩
  rw [HD1.out, HD2.out]
  have hb13 := hb12.trans (hb3.mono hb12.size)
  go_wp2_with fail
  refine (implHexText_any N _ n1 _).mono ?_
  rintro e w4 ⟨rfl, hw4⟩
  rw [HS.out]
  have hb14 : Below w.heap.size w w4 := by
    rcases hw4 with rfl | ⟨C, rfl⟩
    · exact hb13
    · exact hb13.alloc hb13.size _
  clear hw4 hb1 hb2 hb3 hb12 hb13
  go_wp2_with fail
  refine (specDecText_any N n0 n1 _).mono ?_
  rintro e w' ⟨rfl, rfl⟩
  rw [HTT.out]
  go_wp2_with fail
  refine (specHexText_any N _ n1 _).mono ?_
  rintro e w' ⟨rfl, rfl⟩
  rw [HS.out]
  have hb15 := hb14
  go_wp2_with fail
  refine (implReadDec_any T _ hsz).mono ?_
  rintro e w6 ⟨rfl, hw6⟩
  rw [HRT.out]
  go_wp2
  go_ret
  refine ⟨by simp, ?_⟩
  rcases hw6 with rfl | ⟨p, rfl⟩
  · exact hb15
  · exact hb15.alloc hb15.size _

set_option maxRecDepth 100000 in
set_option maxHeartbeats 800000 in
theorem walkA_out (a : Option Addr) (len cap : Nat) (z : List Int) (N D : Int) (w : World) (hc : CodeRow w.heap.size w a len z) (ht : Lib.TabIs Tryd.prog w "internal/strconv.uint64pow10" .u64 Lib.pow10Tab) (hD : Dec z len N D) (h : N < 0 ∨ D < 1 ∨ 8 < D) (hN : N < 0 ∨ 999999999 < N) :
    Calls Tryd.prog 3 #[.slice a len cap] w fun e w' => e = .returned (.bool true) ∧ Below w.heap.size w w' := by
  have hl := hc.1
  obtain ⟨d1, d2, n0, n1⟩ := hD
  have HD1 := Lib.hid d1
  have HD2 := Lib.hid d2
  have HT := Lib.hid ht
  have HRD := Lib.hid (rdec_itoa_out N hN)
  have hsz := itoa_size N n0 n1
  obtain ⟨T, HTT⟩ : ∃ T, Hid (ByteArray.mk (itoa N).toArray = T) := ⟨_, Lib.hid rfl⟩
  have HRT := Lib.hid (show rdec T.data.toList = -1 by rw [← HTT.out]; exact HRD.out)
  rw [HTT.out] at hsz
  obtain ⟨S, HS⟩ : ∃ S, Hid (ByteArray.mk (hexT N D).toArray = S) := ⟨_, Lib.hid rfl⟩
  obtain rfl : S = ByteArray.empty := by rw [← HS.out, hexT_no N D h]; rfl
  clear h
  clear d1 d2 ht
  have hbig : decide ((1048576 : Int) < len) = false := by simp; omega
  go_enter Tryd.func3, Tryd.ntmps3
  go_wp2_with fail
  refine (big_any _ _ _ _ (by omega)).mono ?_
  rintro e w' ⟨rfl, rfl⟩
  rw [hbig]
  clear hbig
  go_wp2_with fail
  refine (drawDec_any w.heap.size a len cap z w hc (Nat.le_refl _)).mono ?_
  rintro e w1 ⟨rfl, hb1⟩
  rw [HD1.out]
  have HT1 := Lib.hid (tab_kept HT.out hb1)
  go_wp2_with fail
  refine (implDecText_any N n0 n1 _ HT1.out).mono ?_
  rintro e w2 ⟨rfl, hb2⟩
  rw [HTT.out]
  have hb12 := hb1.trans (hb2.mono hb1.size)
  go_wp2_with fail
  refine (drawHex_any w.heap.size a len cap z w2 (hc.kept hb12) hb12.size).mono ?_
  rintro e w3 ⟨rfl, hb3⟩
  rw [HD1.out, HD2.out]
  have hb13 := hb12.trans (hb3.mono hb12.size)
  go_wp2_with fail
  refine (implHexText_any N _ n1 _).mono ?_
  rintro e w4 ⟨rfl, hw4⟩
  rw [HS.out]
  have hb14 : Below w.heap.size w w4 := by
    rcases hw4 with rfl | ⟨C, rfl⟩
    · exact hb13
    · exact hb13.alloc hb13.size _
  clear hw4 hb1 hb2 hb3 hb12 hb13
  go_wp2_with fail
  refine (specDecText_any N n0 n1 _).mono ?_
  rintro e w' ⟨rfl, rfl⟩
  rw [HTT.out]
  go_wp2_with fail
  refine (specHexText_any N _ n1 _).mono ?_
  rintro e w' ⟨rfl, rfl⟩
  rw [HS.out]
  rcases hN with hN | hN
  all_goals
      have hb15 := hb14
      go_wp2_with fail
      refine (implReadDec_any T _ hsz).mono ?_
      rintro e w6 ⟨rfl, hw6⟩
      rw [HRT.out]
      go_wp2
      go_ret
      refine ⟨by simp, ?_⟩
      rcases hw6 with rfl | ⟨p, rfl⟩
      · exact hb15
      · exact hb15.alloc hb15.size _
    
set_option maxRecDepth 100000 in
set_option maxHeartbeats 800000 in
theorem walkB1_in (a : Option Addr) (len cap : Nat) (z : List Int) (N : Int) (w : World) (hc : CodeRow w.heap.size w a len z) (ht : Lib.TabIs Tryd.prog w "internal/strconv.uint64pow10" .u64 Lib.pow10Tab) (hD : Dec z len N 1) (hN0 : 0 ≤ N) (hN1 : N ≤ 999999999) :
    Calls Tryd.prog 3 #[.slice a len cap] w fun e w' => e = .returned (.bool true) ∧ Below w.heap.size w w' := by
  have hl := hc.1
  obtain ⟨d1, d2, n0, n1⟩ := hD
  have HD1 := Lib.hid d1
  have HD2 := Lib.hid d2
  have HT := Lib.hid ht
  have HRD := Lib.hid (rdec_itoa_in N hN0 hN1)
  have hsz := itoa_size N n0 n1
  obtain ⟨T, HTT⟩ : ∃ T, Hid (ByteArray.mk (itoa N).toArray = T) := ⟨_, Lib.hid rfl⟩
  have HRT := Lib.hid (show rdec T.data.toList = N by rw [← HTT.out]; exact HRD.out)
  rw [HTT.out] at hsz
  obtain ⟨S, HS⟩ : ∃ S, Hid (ByteArray.mk (hexT N 1).toArray = S) := ⟨_, Lib.hid rfl⟩
  have HLOW := Lib.hid (show rhex S 1 = bits BinOp.and IntKind.i64 N 15 from low_fact 1 N 15 S HS.out hN0 n1 (by decide) (by decide) (by decide))
  have hss : S.size ≤ maxLen := by rw [← HS.out]; exact hex_size _ _
  have hpos := hex_pos 1 N S HS.out hN0 (by decide) (by decide)
  have hne := list_ne S hpos
  have hie := list_empty S hpos
  clear d1 d2 ht
  have hbig : decide ((1048576 : Int) < len) = false := by simp; omega
  go_enter Tryd.func3, Tryd.ntmps3
  go_wp2_with fail
  refine (big_any _ _ _ _ (by omega)).mono ?_
  rintro e w' ⟨rfl, rfl⟩
  rw [hbig]
  clear hbig
  go_wp2_with fail
  refine (drawDec_any w.heap.size a len cap z w hc (Nat.le_refl _)).mono ?_
  rintro e w1 ⟨rfl, hb1⟩
  rw [HD1.out]
  have HT1 := Lib.hid (tab_kept HT.out hb1)
  go_wp2_with fail
  refine (implDecText_any N n0 n1 _ HT1.out).mono ?_
  rintro e w2 ⟨rfl, hb2⟩
  rw [HTT.out]
  have hb12 := hb1.trans (hb2.mono hb1.size)
  go_wp2_with fail
  refine (drawHex_any w.heap.size a len cap z w2 (hc.kept hb12) hb12.size).mono ?_
  rintro e w3 ⟨rfl, hb3⟩
  rw [HD1.out, HD2.out]
  have hb13 := hb12.trans (hb3.mono hb12.size)
  go_wp2_with fail
  refine (implHexText_any N _ n1 _).mono ?_
  rintro e w4 ⟨rfl, hw4⟩
  rw [HS.out]
  have hb14 : Below w.heap.size w w4 := by
    rcases hw4 with rfl | ⟨C, rfl⟩
    · exact hb13
    · exact hb13.alloc hb13.size _
  clear hw4 hb1 hb2 hb3 hb12 hb13
  go_wp2_with fail
  refine (specDecText_any N n0 n1 _).mono ?_
  rintro e w' ⟨rfl, rfl⟩
  rw [HTT.out]
  go_wp2_with fail
  refine (specHexText_any N _ n1 _).mono ?_
  rintro e w' ⟨rfl, rfl⟩
  rw [HS.out]
  go_wp2_with fail
  refine (implReadHex_any S _ _ hss).mono ?_
  rintro e w5 ⟨rfl, hw5⟩
  rw [HLOW.out]
  have hb15 : Below w.heap.size w w5 := by
    rcases hw5 with rfl | ⟨p, rfl⟩
    · exact hb14
    · exact hb14.alloc hb14.size _
  clear hw5
  go_wp2_with fail
  refine (implReadDec_any T _ hsz).mono ?_
  rintro e w6 ⟨rfl, hw6⟩
  rw [HRT.out]
  go_wp2
  go_ret
  refine ⟨by simp, ?_⟩
  rcases hw6 with rfl | ⟨p, rfl⟩
  · exact hb15
  · exact hb15.alloc hb15.size _

set_option maxRecDepth 100000 in
set_option maxHeartbeats 800000 in
theorem walkB1_out (a : Option Addr) (len cap : Nat) (z : List Int) (N : Int) (w : World) (hc : CodeRow w.heap.size w a len z) (ht : Lib.TabIs Tryd.prog w "internal/strconv.uint64pow10" .u64 Lib.pow10Tab) (hD : Dec z len N 1) (hN0 : 0 ≤ N) (hN1 : 999999999 < N) :
    Calls Tryd.prog 3 #[.slice a len cap] w fun e w' => e = .returned (.bool true) ∧ Below w.heap.size w w' := by
  have hl := hc.1
  obtain ⟨d1, d2, n0, n1⟩ := hD
  have HD1 := Lib.hid d1
  have HD2 := Lib.hid d2
  have HT := Lib.hid ht
  have HRD := Lib.hid (rdec_itoa_out N (.inr hN1))
  have hsz := itoa_size N n0 n1
  obtain ⟨T, HTT⟩ : ∃ T, Hid (ByteArray.mk (itoa N).toArray = T) := ⟨_, Lib.hid rfl⟩
  have HRT := Lib.hid (show rdec T.data.toList = -1 by rw [← HTT.out]; exact HRD.out)
  rw [HTT.out] at hsz
  obtain ⟨S, HS⟩ : ∃ S, Hid (ByteArray.mk (hexT N 1).toArray = S) := ⟨_, Lib.hid rfl⟩
  have HLOW := Lib.hid (show rhex S 1 = bits BinOp.and IntKind.i64 N 15 from low_fact 1 N 15 S HS.out hN0 n1 (by decide) (by decide) (by decide))
  have hss : S.size ≤ maxLen := by rw [← HS.out]; exact hex_size _ _
  have hpos := hex_pos 1 N S HS.out hN0 (by decide) (by decide)
  have hne := list_ne S hpos
  have hie := list_empty S hpos
  clear d1 d2 ht
  have hbig : decide ((1048576 : Int) < len) = false := by simp; omega
  go_enter Tryd.func3, Tryd.ntmps3
  go_wp2_with fail
  refine (big_any _ _ _ _ (by omega)).mono ?_
  rintro e w' ⟨rfl, rfl⟩
  rw [hbig]
  clear hbig
  go_wp2_with fail
  refine (drawDec_any w.heap.size a len cap z w hc (Nat.le_refl _)).mono ?_
  rintro e w1 ⟨rfl, hb1⟩
  rw [HD1.out]
  have HT1 := Lib.hid (tab_kept HT.out hb1)
  go_wp2_with fail
  refine (implDecText_any N n0 n1 _ HT1.out).mono ?_
  rintro e w2 ⟨rfl, hb2⟩
  rw [HTT.out]
  have hb12 := hb1.trans (hb2.mono hb1.size)
  go_wp2_with fail
  refine (drawHex_any w.heap.size a len cap z w2 (hc.kept hb12) hb12.size).mono ?_
  rintro e w3 ⟨rfl, hb3⟩
  rw [HD1.out, HD2.out]
  have hb13 := hb12.trans (hb3.mono hb12.size)
  go_wp2_with fail
  refine (implHexText_any N _ n1 _).mono ?_
  rintro e w4 ⟨rfl, hw4⟩
  rw [HS.out]
  have hb14 : Below w.heap.size w w4 := by
    rcases hw4 with rfl | ⟨C, rfl⟩
    · exact hb13
    · exact hb13.alloc hb13.size _
  clear hw4 hb1 hb2 hb3 hb12 hb13
  go_wp2_with fail
  refine (specDecText_any N n0 n1 _).mono ?_
  rintro e w' ⟨rfl, rfl⟩
  rw [HTT.out]
  go_wp2_with fail
  refine (specHexText_any N _ n1 _).mono ?_
  rintro e w' ⟨rfl, rfl⟩
  rw [HS.out]
  go_wp2_with fail
  refine (implReadHex_any S _ _ hss).mono ?_
  rintro e w5 ⟨rfl, hw5⟩
  rw [HLOW.out]
  have hb15 : Below w.heap.size w w5 := by
    rcases hw5 with rfl | ⟨p, rfl⟩
    · exact hb14
    · exact hb14.alloc hb14.size _
  clear hw5
  go_wp2_with fail
  refine (implReadDec_any T _ hsz).mono ?_
  rintro e w6 ⟨rfl, hw6⟩
  rw [HRT.out]
  go_wp2
  go_ret
  refine ⟨by simp, ?_⟩
  rcases hw6 with rfl | ⟨p, rfl⟩
  · exact hb15
  · exact hb15.alloc hb15.size _

set_option maxRecDepth 100000 in
set_option maxHeartbeats 800000 in
theorem walkB2_in (a : Option Addr) (len cap : Nat) (z : List Int) (N : Int) (w : World) (hc : CodeRow w.heap.size w a len z) (ht : Lib.TabIs Tryd.prog w "internal/strconv.uint64pow10" .u64 Lib.pow10Tab) (hD : Dec z len N 2) (hN0 : 0 ≤ N) (hN1 : N ≤ 999999999) :
    Calls Tryd.prog 3 #[.slice a len cap] w fun e w' => e = .returned (.bool true) ∧ Below w.heap.size w w' := by
  have hl := hc.1
  obtain ⟨d1, d2, n0, n1⟩ := hD
  have HD1 := Lib.hid d1
  have HD2 := Lib.hid d2
  have HT := Lib.hid ht
  have HRD := Lib.hid (rdec_itoa_in N hN0 hN1)
  have hsz := itoa_size N n0 n1
  obtain ⟨T, HTT⟩ : ∃ T, Hid (ByteArray.mk (itoa N).toArray = T) := ⟨_, Lib.hid rfl⟩
  have HRT := Lib.hid (show rdec T.data.toList = N by rw [← HTT.out]; exact HRD.out)
  rw [HTT.out] at hsz
  obtain ⟨S, HS⟩ : ∃ S, Hid (ByteArray.mk (hexT N 2).toArray = S) := ⟨_, Lib.hid rfl⟩
  have HLOW := Lib.hid (show rhex S 2 = bits BinOp.and IntKind.i64 N 255 from low_fact 2 N 255 S HS.out hN0 n1 (by decide) (by decide) (by decide))
  have hss : S.size ≤ maxLen := by rw [← HS.out]; exact hex_size _ _
  have hpos := hex_pos 2 N S HS.out hN0 (by decide) (by decide)
  have hne := list_ne S hpos
  have hie := list_empty S hpos
  clear d1 d2 ht
  have hbig : decide ((1048576 : Int) < len) = false := by simp; omega
  go_enter Tryd.func3, Tryd.ntmps3
  go_wp2_with fail
  refine (big_any _ _ _ _ (by omega)).mono ?_
  rintro e w' ⟨rfl, rfl⟩
  rw [hbig]
  clear hbig
  go_wp2_with fail
  refine (drawDec_any w.heap.size a len cap z w hc (Nat.le_refl _)).mono ?_
  rintro e w1 ⟨rfl, hb1⟩
  rw [HD1.out]
  have HT1 := Lib.hid (tab_kept HT.out hb1)
  go_wp2_with fail
  refine (implDecText_any N n0 n1 _ HT1.out).mono ?_
  rintro e w2 ⟨rfl, hb2⟩
  rw [HTT.out]
  have hb12 := hb1.trans (hb2.mono hb1.size)
  go_wp2_with fail
  refine (drawHex_any w.heap.size a len cap z w2 (hc.kept hb12) hb12.size).mono ?_
  rintro e w3 ⟨rfl, hb3⟩
  rw [HD1.out, HD2.out]
  have hb13 := hb12.trans (hb3.mono hb12.size)
  go_wp2_with fail
  refine (implHexText_any N _ n1 _).mono ?_
  rintro e w4 ⟨rfl, hw4⟩
  rw [HS.out]
  have hb14 : Below w.heap.size w w4 := by
    rcases hw4 with rfl | ⟨C, rfl⟩
    · exact hb13
    · exact hb13.alloc hb13.size _
  clear hw4 hb1 hb2 hb3 hb12 hb13
  go_wp2_with fail
  refine (specDecText_any N n0 n1 _).mono ?_
  rintro e w' ⟨rfl, rfl⟩
  rw [HTT.out]
  go_wp2_with fail
  refine (specHexText_any N _ n1 _).mono ?_
  rintro e w' ⟨rfl, rfl⟩
  rw [HS.out]
  go_wp2_with fail
  refine (implReadHex_any S _ _ hss).mono ?_
  rintro e w5 ⟨rfl, hw5⟩
  rw [HLOW.out]
  have hb15 : Below w.heap.size w w5 := by
    rcases hw5 with rfl | ⟨p, rfl⟩
    · exact hb14
    · exact hb14.alloc hb14.size _
  clear hw5
  go_wp2_with fail
  refine (implReadDec_any T _ hsz).mono ?_
  rintro e w6 ⟨rfl, hw6⟩
  rw [HRT.out]
  go_wp2
  go_ret
  refine ⟨by simp, ?_⟩
  rcases hw6 with rfl | ⟨p, rfl⟩
  · exact hb15
  · exact hb15.alloc hb15.size _

set_option maxRecDepth 100000 in
set_option maxHeartbeats 800000 in
theorem walkB2_out (a : Option Addr) (len cap : Nat) (z : List Int) (N : Int) (w : World) (hc : CodeRow w.heap.size w a len z) (ht : Lib.TabIs Tryd.prog w "internal/strconv.uint64pow10" .u64 Lib.pow10Tab) (hD : Dec z len N 2) (hN0 : 0 ≤ N) (hN1 : 999999999 < N) :
    Calls Tryd.prog 3 #[.slice a len cap] w fun e w' => e = .returned (.bool true) ∧ Below w.heap.size w w' := by
  have hl := hc.1
  obtain ⟨d1, d2, n0, n1⟩ := hD
  have HD1 := Lib.hid d1
  have HD2 := Lib.hid d2
  have HT := Lib.hid ht
  have HRD := Lib.hid (rdec_itoa_out N (.inr hN1))
  have hsz := itoa_size N n0 n1
  obtain ⟨T, HTT⟩ : ∃ T, Hid (ByteArray.mk (itoa N).toArray = T) := ⟨_, Lib.hid rfl⟩
  have HRT := Lib.hid (show rdec T.data.toList = -1 by rw [← HTT.out]; exact HRD.out)
  rw [HTT.out] at hsz
  obtain ⟨S, HS⟩ : ∃ S, Hid (ByteArray.mk (hexT N 2).toArray = S) := ⟨_, Lib.hid rfl⟩
  have HLOW := Lib.hid (show rhex S 2 = bits BinOp.and IntKind.i64 N 255 from low_fact 2 N 255 S HS.out hN0 n1 (by decide) (by decide) (by decide))
  have hss : S.size ≤ maxLen := by rw [← HS.out]; exact hex_size _ _
  have hpos := hex_pos 2 N S HS.out hN0 (by decide) (by decide)
  have hne := list_ne S hpos
  have hie := list_empty S hpos
  clear d1 d2 ht
  have hbig : decide ((1048576 : Int) < len) = false := by simp; omega
  go_enter Tryd.func3, Tryd.ntmps3
  go_wp2_with fail
  refine (big_any _ _ _ _ (by omega)).mono ?_
  rintro e w' ⟨rfl, rfl⟩
  rw [hbig]
  clear hbig
  go_wp2_with fail
  refine (drawDec_any w.heap.size a len cap z w hc (Nat.le_refl _)).mono ?_
  rintro e w1 ⟨rfl, hb1⟩
  rw [HD1.out]
  have HT1 := Lib.hid (tab_kept HT.out hb1)
  go_wp2_with fail
  refine (implDecText_any N n0 n1 _ HT1.out).mono ?_
  rintro e w2 ⟨rfl, hb2⟩
  rw [HTT.out]
  have hb12 := hb1.trans (hb2.mono hb1.size)
  go_wp2_with fail
  refine (drawHex_any w.heap.size a len cap z w2 (hc.kept hb12) hb12.size).mono ?_
  rintro e w3 ⟨rfl, hb3⟩
  rw [HD1.out, HD2.out]
  have hb13 := hb12.trans (hb3.mono hb12.size)
  go_wp2_with fail
  refine (implHexText_any N _ n1 _).mono ?_
  rintro e w4 ⟨rfl, hw4⟩
  rw [HS.out]
  have hb14 : Below w.heap.size w w4 := by
    rcases hw4 with rfl | ⟨C, rfl⟩
    · exact hb13
    · exact hb13.alloc hb13.size _
  clear hw4 hb1 hb2 hb3 hb12 hb13
  go_wp2_with fail
  refine (specDecText_any N n0 n1 _).mono ?_
  rintro e w' ⟨rfl, rfl⟩
  rw [HTT.out]
  go_wp2_with fail
  refine (specHexText_any N _ n1 _).mono ?_
  rintro e w' ⟨rfl, rfl⟩
  rw [HS.out]
  go_wp2_with fail
  refine (implReadHex_any S _ _ hss).mono ?_
  rintro e w5 ⟨rfl, hw5⟩
  rw [HLOW.out]
  have hb15 : Below w.heap.size w w5 := by
    rcases hw5 with rfl | ⟨p, rfl⟩
    · exact hb14
    · exact hb14.alloc hb14.size _
  clear hw5
  go_wp2_with fail
  refine (implReadDec_any T _ hsz).mono ?_
  rintro e w6 ⟨rfl, hw6⟩
  rw [HRT.out]
  go_wp2
  go_ret
  refine ⟨by simp, ?_⟩
  rcases hw6 with rfl | ⟨p, rfl⟩
  · exact hb15
  · exact hb15.alloc hb15.size _

set_option maxRecDepth 100000 in
set_option maxHeartbeats 800000 in
theorem walkB3_in (a : Option Addr) (len cap : Nat) (z : List Int) (N : Int) (w : World) (hc : CodeRow w.heap.size w a len z) (ht : Lib.TabIs Tryd.prog w "internal/strconv.uint64pow10" .u64 Lib.pow10Tab) (hD : Dec z len N 3) (hN0 : 0 ≤ N) (hN1 : N ≤ 999999999) :
    Calls Tryd.prog 3 #[.slice a len cap] w fun e w' => e = .returned (.bool true) ∧ Below w.heap.size w w' := by
  have hl := hc.1
  obtain ⟨d1, d2, n0, n1⟩ := hD
  have HD1 := Lib.hid d1
  have HD2 := Lib.hid d2
  have HT := Lib.hid ht
  have HRD := Lib.hid (rdec_itoa_in N hN0 hN1)
  have hsz := itoa_size N n0 n1
  obtain ⟨T, HTT⟩ : ∃ T, Hid (ByteArray.mk (itoa N).toArray = T) := ⟨_, Lib.hid rfl⟩
  have HRT := Lib.hid (show rdec T.data.toList = N by rw [← HTT.out]; exact HRD.out)
  rw [HTT.out] at hsz
  obtain ⟨S, HS⟩ : ∃ S, Hid (ByteArray.mk (hexT N 3).toArray = S) := ⟨_, Lib.hid rfl⟩
  have HLOW := Lib.hid (show rhex S 3 = bits BinOp.and IntKind.i64 N 4095 from low_fact 3 N 4095 S HS.out hN0 n1 (by decide) (by decide) (by decide))
  have hss : S.size ≤ maxLen := by rw [← HS.out]; exact hex_size _ _
  have hpos := hex_pos 3 N S HS.out hN0 (by decide) (by decide)
  have hne := list_ne S hpos
  have hie := list_empty S hpos
  clear d1 d2 ht
  have hbig : decide ((1048576 : Int) < len) = false := by simp; omega
  go_enter Tryd.func3, Tryd.ntmps3
  go_wp2_with fail
  refine (big_any _ _ _ _ (by omega)).mono ?_
  rintro e w' ⟨rfl, rfl⟩
  rw [hbig]
  clear hbig
  go_wp2_with fail
  refine (drawDec_any w.heap.size a len cap z w hc (Nat.le_refl _)).mono ?_
  rintro e w1 ⟨rfl, hb1⟩
  rw [HD1.out]
  have HT1 := Lib.hid (tab_kept HT.out hb1)
  go_wp2_with fail
  refine (implDecText_any N n0 n1 _ HT1.out).mono ?_
  rintro e w2 ⟨rfl, hb2⟩
  rw [HTT.out]
  have hb12 := hb1.trans (hb2.mono hb1.size)
  go_wp2_with fail
  refine (drawHex_any w.heap.size a len cap z w2 (hc.kept hb12) hb12.size).mono ?_
  rintro e w3 ⟨rfl, hb3⟩
  rw [HD1.out, HD2.out]
  have hb13 := hb12.trans (hb3.mono hb12.size)
  go_wp2_with fail
  refine (implHexText_any N _ n1 _).mono ?_
  rintro e w4 ⟨rfl, hw4⟩
  rw [HS.out]
  have hb14 : Below w.heap.size w w4 := by
    rcases hw4 with rfl | ⟨C, rfl⟩
    · exact hb13
    · exact hb13.alloc hb13.size _
  clear hw4 hb1 hb2 hb3 hb12 hb13
  go_wp2_with fail
  refine (specDecText_any N n0 n1 _).mono ?_
  rintro e w' ⟨rfl, rfl⟩
  rw [HTT.out]
  go_wp2_with fail
  refine (specHexText_any N _ n1 _).mono ?_
  rintro e w' ⟨rfl, rfl⟩
  rw [HS.out]
  go_wp2_with fail
  refine (implReadHex_any S _ _ hss).mono ?_
  rintro e w5 ⟨rfl, hw5⟩
  rw [HLOW.out]
  have hb15 : Below w.heap.size w w5 := by
    rcases hw5 with rfl | ⟨p, rfl⟩
    · exact hb14
    · exact hb14.alloc hb14.size _
  clear hw5
  go_wp2_with fail
  refine (implReadDec_any T _ hsz).mono ?_
  rintro e w6 ⟨rfl, hw6⟩
  rw [HRT.out]
  go_wp2
  go_ret
  refine ⟨by simp, ?_⟩
  rcases hw6 with rfl | ⟨p, rfl⟩
  · exact hb15
  · exact hb15.alloc hb15.size _

set_option maxRecDepth 100000 in
set_option maxHeartbeats 800000 in
theorem walkB3_out (a : Option Addr) (len cap : Nat) (z : List Int) (N : Int) (w : World) (hc : CodeRow w.heap.size w a len z) (ht : Lib.TabIs Tryd.prog w "internal/strconv.uint64pow10" .u64 Lib.pow10Tab) (hD : Dec z len N 3) (hN0 : 0 ≤ N) (hN1 : 999999999 < N) :
    Calls Tryd.prog 3 #[.slice a len cap] w fun e w' => e = .returned (.bool true) ∧ Below w.heap.size w w' := by
  have hl := hc.1
  obtain ⟨d1, d2, n0, n1⟩ := hD
  have HD1 := Lib.hid d1
  have HD2 := Lib.hid d2
  have HT := Lib.hid ht
  have HRD := Lib.hid (rdec_itoa_out N (.inr hN1))
  have hsz := itoa_size N n0 n1
  obtain ⟨T, HTT⟩ : ∃ T, Hid (ByteArray.mk (itoa N).toArray = T) := ⟨_, Lib.hid rfl⟩
  have HRT := Lib.hid (show rdec T.data.toList = -1 by rw [← HTT.out]; exact HRD.out)
  rw [HTT.out] at hsz
  obtain ⟨S, HS⟩ : ∃ S, Hid (ByteArray.mk (hexT N 3).toArray = S) := ⟨_, Lib.hid rfl⟩
  have HLOW := Lib.hid (show rhex S 3 = bits BinOp.and IntKind.i64 N 4095 from low_fact 3 N 4095 S HS.out hN0 n1 (by decide) (by decide) (by decide))
  have hss : S.size ≤ maxLen := by rw [← HS.out]; exact hex_size _ _
  have hpos := hex_pos 3 N S HS.out hN0 (by decide) (by decide)
  have hne := list_ne S hpos
  have hie := list_empty S hpos
  clear d1 d2 ht
  have hbig : decide ((1048576 : Int) < len) = false := by simp; omega
  go_enter Tryd.func3, Tryd.ntmps3
  go_wp2_with fail
  refine (big_any _ _ _ _ (by omega)).mono ?_
  rintro e w' ⟨rfl, rfl⟩
  rw [hbig]
  clear hbig
  go_wp2_with fail
  refine (drawDec_any w.heap.size a len cap z w hc (Nat.le_refl _)).mono ?_
  rintro e w1 ⟨rfl, hb1⟩
  rw [HD1.out]
  have HT1 := Lib.hid (tab_kept HT.out hb1)
  go_wp2_with fail
  refine (implDecText_any N n0 n1 _ HT1.out).mono ?_
  rintro e w2 ⟨rfl, hb2⟩
  rw [HTT.out]
  have hb12 := hb1.trans (hb2.mono hb1.size)
  go_wp2_with fail
  refine (drawHex_any w.heap.size a len cap z w2 (hc.kept hb12) hb12.size).mono ?_
  rintro e w3 ⟨rfl, hb3⟩
  rw [HD1.out, HD2.out]
  have hb13 := hb12.trans (hb3.mono hb12.size)
  go_wp2_with fail
  refine (implHexText_any N _ n1 _).mono ?_
  rintro e w4 ⟨rfl, hw4⟩
  rw [HS.out]
  have hb14 : Below w.heap.size w w4 := by
    rcases hw4 with rfl | ⟨C, rfl⟩
    · exact hb13
    · exact hb13.alloc hb13.size _
  clear hw4 hb1 hb2 hb3 hb12 hb13
  go_wp2_with fail
  refine (specDecText_any N n0 n1 _).mono ?_
  rintro e w' ⟨rfl, rfl⟩
  rw [HTT.out]
  go_wp2_with fail
  refine (specHexText_any N _ n1 _).mono ?_
  rintro e w' ⟨rfl, rfl⟩
  rw [HS.out]
  go_wp2_with fail
  refine (implReadHex_any S _ _ hss).mono ?_
  rintro e w5 ⟨rfl, hw5⟩
  rw [HLOW.out]
  have hb15 : Below w.heap.size w w5 := by
    rcases hw5 with rfl | ⟨p, rfl⟩
    · exact hb14
    · exact hb14.alloc hb14.size _
  clear hw5
  go_wp2_with fail
  refine (implReadDec_any T _ hsz).mono ?_
  rintro e w6 ⟨rfl, hw6⟩
  rw [HRT.out]
  go_wp2
  go_ret
  refine ⟨by simp, ?_⟩
  rcases hw6 with rfl | ⟨p, rfl⟩
  · exact hb15
  · exact hb15.alloc hb15.size _

set_option maxRecDepth 100000 in
set_option maxHeartbeats 800000 in
theorem walkB4_in (a : Option Addr) (len cap : Nat) (z : List Int) (N : Int) (w : World) (hc : CodeRow w.heap.size w a len z) (ht : Lib.TabIs Tryd.prog w "internal/strconv.uint64pow10" .u64 Lib.pow10Tab) (hD : Dec z len N 4) (hN0 : 0 ≤ N) (hN1 : N ≤ 999999999) :
    Calls Tryd.prog 3 #[.slice a len cap] w fun e w' => e = .returned (.bool true) ∧ Below w.heap.size w w' := by
  have hl := hc.1
  obtain ⟨d1, d2, n0, n1⟩ := hD
  have HD1 := Lib.hid d1
  have HD2 := Lib.hid d2
  have HT := Lib.hid ht
  have HRD := Lib.hid (rdec_itoa_in N hN0 hN1)
  have hsz := itoa_size N n0 n1
  obtain ⟨T, HTT⟩ : ∃ T, Hid (ByteArray.mk (itoa N).toArray = T) := ⟨_, Lib.hid rfl⟩
  have HRT := Lib.hid (show rdec T.data.toList = N by rw [← HTT.out]; exact HRD.out)
  rw [HTT.out] at hsz
  obtain ⟨S, HS⟩ : ∃ S, Hid (ByteArray.mk (hexT N 4).toArray = S) := ⟨_, Lib.hid rfl⟩
  have HLOW := Lib.hid (show rhex S 4 = bits BinOp.and IntKind.i64 N 65535 from low_fact 4 N 65535 S HS.out hN0 n1 (by decide) (by decide) (by decide))
  have hss : S.size ≤ maxLen := by rw [← HS.out]; exact hex_size _ _
  have hpos := hex_pos 4 N S HS.out hN0 (by decide) (by decide)
  have hne := list_ne S hpos
  have hie := list_empty S hpos
  clear d1 d2 ht
  have hbig : decide ((1048576 : Int) < len) = false := by simp; omega
  go_enter Tryd.func3, Tryd.ntmps3
  go_wp2_with fail
  refine (big_any _ _ _ _ (by omega)).mono ?_
  rintro e w' ⟨rfl, rfl⟩
  rw [hbig]
  clear hbig
  go_wp2_with fail
  refine (drawDec_any w.heap.size a len cap z w hc (Nat.le_refl _)).mono ?_
  rintro e w1 ⟨rfl, hb1⟩
  rw [HD1.out]
  have HT1 := Lib.hid (tab_kept HT.out hb1)
  go_wp2_with fail
  refine (implDecText_any N n0 n1 _ HT1.out).mono ?_
  rintro e w2 ⟨rfl, hb2⟩
  rw [HTT.out]
  have hb12 := hb1.trans (hb2.mono hb1.size)
  go_wp2_with fail
  refine (drawHex_any w.heap.size a len cap z w2 (hc.kept hb12) hb12.size).mono ?_
  rintro e w3 ⟨rfl, hb3⟩
  rw [HD1.out, HD2.out]
  have hb13 := hb12.trans (hb3.mono hb12.size)
  go_wp2_with fail
  refine (implHexText_any N _ n1 _).mono ?_
  rintro e w4 ⟨rfl, hw4⟩
  rw [HS.out]
  have hb14 : Below w.heap.size w w4 := by
    rcases hw4 with rfl | ⟨C, rfl⟩
    · exact hb13
    · exact hb13.alloc hb13.size _
  clear hw4 hb1 hb2 hb3 hb12 hb13
  go_wp2_with fail
  refine (specDecText_any N n0 n1 _).mono ?_
  rintro e w' ⟨rfl, rfl⟩
  rw [HTT.out]
  go_wp2_with fail
  refine (specHexText_any N _ n1 _).mono ?_
  rintro e w' ⟨rfl, rfl⟩
  rw [HS.out]
  go_wp2_with fail
  refine (implReadHex_any S _ _ hss).mono ?_
  rintro e w5 ⟨rfl, hw5⟩
  rw [HLOW.out]
  have hb15 : Below w.heap.size w w5 := by
    rcases hw5 with rfl | ⟨p, rfl⟩
    · exact hb14
    · exact hb14.alloc hb14.size _
  clear hw5
  go_wp2_with fail
  refine (implReadDec_any T _ hsz).mono ?_
  rintro e w6 ⟨rfl, hw6⟩
  rw [HRT.out]
  go_wp2
  go_ret
  refine ⟨by simp, ?_⟩
  rcases hw6 with rfl | ⟨p, rfl⟩
  · exact hb15
  · exact hb15.alloc hb15.size _

set_option maxRecDepth 100000 in
set_option maxHeartbeats 800000 in
theorem walkB4_out (a : Option Addr) (len cap : Nat) (z : List Int) (N : Int) (w : World) (hc : CodeRow w.heap.size w a len z) (ht : Lib.TabIs Tryd.prog w "internal/strconv.uint64pow10" .u64 Lib.pow10Tab) (hD : Dec z len N 4) (hN0 : 0 ≤ N) (hN1 : 999999999 < N) :
    Calls Tryd.prog 3 #[.slice a len cap] w fun e w' => e = .returned (.bool true) ∧ Below w.heap.size w w' := by
  have hl := hc.1
  obtain ⟨d1, d2, n0, n1⟩ := hD
  have HD1 := Lib.hid d1
  have HD2 := Lib.hid d2
  have HT := Lib.hid ht
  have HRD := Lib.hid (rdec_itoa_out N (.inr hN1))
  have hsz := itoa_size N n0 n1
  obtain ⟨T, HTT⟩ : ∃ T, Hid (ByteArray.mk (itoa N).toArray = T) := ⟨_, Lib.hid rfl⟩
  have HRT := Lib.hid (show rdec T.data.toList = -1 by rw [← HTT.out]; exact HRD.out)
  rw [HTT.out] at hsz
  obtain ⟨S, HS⟩ : ∃ S, Hid (ByteArray.mk (hexT N 4).toArray = S) := ⟨_, Lib.hid rfl⟩
  have HLOW := Lib.hid (show rhex S 4 = bits BinOp.and IntKind.i64 N 65535 from low_fact 4 N 65535 S HS.out hN0 n1 (by decide) (by decide) (by decide))
  have hss : S.size ≤ maxLen := by rw [← HS.out]; exact hex_size _ _
  have hpos := hex_pos 4 N S HS.out hN0 (by decide) (by decide)
  have hne := list_ne S hpos
  have hie := list_empty S hpos
  clear d1 d2 ht
  have hbig : decide ((1048576 : Int) < len) = false := by simp; omega
  go_enter Tryd.func3, Tryd.ntmps3
  go_wp2_with fail
  refine (big_any _ _ _ _ (by omega)).mono ?_
  rintro e w' ⟨rfl, rfl⟩
  rw [hbig]
  clear hbig
  go_wp2_with fail
  refine (drawDec_any w.heap.size a len cap z w hc (Nat.le_refl _)).mono ?_
  rintro e w1 ⟨rfl, hb1⟩
  rw [HD1.out]
  have HT1 := Lib.hid (tab_kept HT.out hb1)
  go_wp2_with fail
  refine (implDecText_any N n0 n1 _ HT1.out).mono ?_
  rintro e w2 ⟨rfl, hb2⟩
  rw [HTT.out]
  have hb12 := hb1.trans (hb2.mono hb1.size)
  go_wp2_with fail
  refine (drawHex_any w.heap.size a len cap z w2 (hc.kept hb12) hb12.size).mono ?_
  rintro e w3 ⟨rfl, hb3⟩
  rw [HD1.out, HD2.out]
  have hb13 := hb12.trans (hb3.mono hb12.size)
  go_wp2_with fail
  refine (implHexText_any N _ n1 _).mono ?_
  rintro e w4 ⟨rfl, hw4⟩
  rw [HS.out]
  have hb14 : Below w.heap.size w w4 := by
    rcases hw4 with rfl | ⟨C, rfl⟩
    · exact hb13
    · exact hb13.alloc hb13.size _
  clear hw4 hb1 hb2 hb3 hb12 hb13
  go_wp2_with fail
  refine (specDecText_any N n0 n1 _).mono ?_
  rintro e w' ⟨rfl, rfl⟩
  rw [HTT.out]
  go_wp2_with fail
  refine (specHexText_any N _ n1 _).mono ?_
  rintro e w' ⟨rfl, rfl⟩
  rw [HS.out]
  go_wp2_with fail
  refine (implReadHex_any S _ _ hss).mono ?_
  rintro e w5 ⟨rfl, hw5⟩
  rw [HLOW.out]
  have hb15 : Below w.heap.size w w5 := by
    rcases hw5 with rfl | ⟨p, rfl⟩
    · exact hb14
    · exact hb14.alloc hb14.size _
  clear hw5
  go_wp2_with fail
  refine (implReadDec_any T _ hsz).mono ?_
  rintro e w6 ⟨rfl, hw6⟩
  rw [HRT.out]
  go_wp2
  go_ret
  refine ⟨by simp, ?_⟩
  rcases hw6 with rfl | ⟨p, rfl⟩
  · exact hb15
  · exact hb15.alloc hb15.size _

set_option maxRecDepth 100000 in
set_option maxHeartbeats 800000 in
theorem walkB5_in (a : Option Addr) (len cap : Nat) (z : List Int) (N : Int) (w : World) (hc : CodeRow w.heap.size w a len z) (ht : Lib.TabIs Tryd.prog w "internal/strconv.uint64pow10" .u64 Lib.pow10Tab) (hD : Dec z len N 5) (hN0 : 0 ≤ N) (hN1 : N ≤ 999999999) :
    Calls Tryd.prog 3 #[.slice a len cap] w fun e w' => e = .returned (.bool true) ∧ Below w.heap.size w w' := by
  have hl := hc.1
  obtain ⟨d1, d2, n0, n1⟩ := hD
  have HD1 := Lib.hid d1
  have HD2 := Lib.hid d2
  have HT := Lib.hid ht
  have HRD := Lib.hid (rdec_itoa_in N hN0 hN1)
  have hsz := itoa_size N n0 n1
  obtain ⟨T, HTT⟩ : ∃ T, Hid (ByteArray.mk (itoa N).toArray = T) := ⟨_, Lib.hid rfl⟩
  have HRT := Lib.hid (show rdec T.data.toList = N by rw [← HTT.out]; exact HRD.out)
  rw [HTT.out] at hsz
  obtain ⟨S, HS⟩ : ∃ S, Hid (ByteArray.mk (hexT N 5).toArray = S) := ⟨_, Lib.hid rfl⟩
  have HLOW := Lib.hid (show rhex S 5 = bits BinOp.and IntKind.i64 N 1048575 from low_fact 5 N 1048575 S HS.out hN0 n1 (by decide) (by decide) (by decide))
  have hss : S.size ≤ maxLen := by rw [← HS.out]; exact hex_size _ _
  have hpos := hex_pos 5 N S HS.out hN0 (by decide) (by decide)
  have hne := list_ne S hpos
  have hie := list_empty S hpos
  clear d1 d2 ht
  have hbig : decide ((1048576 : Int) < len) = false := by simp; omega
  go_enter Tryd.func3, Tryd.ntmps3
  go_wp2_with fail
  refine (big_any _ _ _ _ (by omega)).mono ?_
  rintro e w' ⟨rfl, rfl⟩
  rw [hbig]
  clear hbig
  go_wp2_with fail
  refine (drawDec_any w.heap.size a len cap z w hc (Nat.le_refl _)).mono ?_
  rintro e w1 ⟨rfl, hb1⟩
  rw [HD1.out]
  have HT1 := Lib.hid (tab_kept HT.out hb1)
  go_wp2_with fail
  refine (implDecText_any N n0 n1 _ HT1.out).mono ?_
  rintro e w2 ⟨rfl, hb2⟩
  rw [HTT.out]
  have hb12 := hb1.trans (hb2.mono hb1.size)
  go_wp2_with fail
  refine (drawHex_any w.heap.size a len cap z w2 (hc.kept hb12) hb12.size).mono ?_
  rintro e w3 ⟨rfl, hb3⟩
  rw [HD1.out, HD2.out]
  have hb13 := hb12.trans (hb3.mono hb12.size)
  go_wp2_with fail
  refine (implHexText_any N _ n1 _).mono ?_
  rintro e w4 ⟨rfl, hw4⟩
  rw [HS.out]
  have hb14 : Below w.heap.size w w4 := by
    rcases hw4 with rfl | ⟨C, rfl⟩
    · exact hb13
    · exact hb13.alloc hb13.size _
  clear hw4 hb1 hb2 hb3 hb12 hb13
  go_wp2_with fail
  refine (specDecText_any N n0 n1 _).mono ?_
  rintro e w' ⟨rfl, rfl⟩
  rw [HTT.out]
  go_wp2_with fail
  refine (specHexText_any N _ n1 _).mono ?_
  rintro e w' ⟨rfl, rfl⟩
  rw [HS.out]
  go_wp2_with fail
  refine (implReadHex_any S _ _ hss).mono ?_
  rintro e w5 ⟨rfl, hw5⟩
  rw [HLOW.out]
  have hb15 : Below w.heap.size w w5 := by
    rcases hw5 with rfl | ⟨p, rfl⟩
    · exact hb14
    · exact hb14.alloc hb14.size _
  clear hw5
  go_wp2_with fail
  refine (implReadDec_any T _ hsz).mono ?_
  rintro e w6 ⟨rfl, hw6⟩
  rw [HRT.out]
  go_wp2
  go_ret
  refine ⟨by simp, ?_⟩
  rcases hw6 with rfl | ⟨p, rfl⟩
  · exact hb15
  · exact hb15.alloc hb15.size _

set_option maxRecDepth 100000 in
set_option maxHeartbeats 800000 in
theorem walkB5_out (a : Option Addr) (len cap : Nat) (z : List Int) (N : Int) (w : World) (hc : CodeRow w.heap.size w a len z) (ht : Lib.TabIs Tryd.prog w "internal/strconv.uint64pow10" .u64 Lib.pow10Tab) (hD : Dec z len N 5) (hN0 : 0 ≤ N) (hN1 : 999999999 < N) :
    Calls Tryd.prog 3 #[.slice a len cap] w fun e w' => e = .returned (.bool true) ∧ Below w.heap.size w w' := by
  have hl := hc.1
  obtain ⟨d1, d2, n0, n1⟩ := hD
  have HD1 := Lib.hid d1
  have HD2 := Lib.hid d2
  have HT := Lib.hid ht
  have HRD := Lib.hid (rdec_itoa_out N (.inr hN1))
  have hsz := itoa_size N n0 n1
  obtain ⟨T, HTT⟩ : ∃ T, Hid (ByteArray.mk (itoa N).toArray = T) := ⟨_, Lib.hid rfl⟩
  have HRT := Lib.hid (show rdec T.data.toList = -1 by rw [← HTT.out]; exact HRD.out)
  rw [HTT.out] at hsz
  obtain ⟨S, HS⟩ : ∃ S, Hid (ByteArray.mk (hexT N 5).toArray = S) := ⟨_, Lib.hid rfl⟩
  have HLOW := Lib.hid (show rhex S 5 = bits BinOp.and IntKind.i64 N 1048575 from low_fact 5 N 1048575 S HS.out hN0 n1 (by decide) (by decide) (by decide))
  have hss : S.size ≤ maxLen := by rw [← HS.out]; exact hex_size _ _
  have hpos := hex_pos 5 N S HS.out hN0 (by decide) (by decide)
  have hne := list_ne S hpos
  have hie := list_empty S hpos
  clear d1 d2 ht
  have hbig : decide ((1048576 : Int) < len) = false := by simp; omega
  go_enter Tryd.func3, Tryd.ntmps3
  go_wp2_with fail
  refine (big_any _ _ _ _ (by omega)).mono ?_
  rintro e w' ⟨rfl, rfl⟩
  rw [hbig]
  clear hbig
  go_wp2_with fail
  refine (drawDec_any w.heap.size a len cap z w hc (Nat.le_refl _)).mono ?_
  rintro e w1 ⟨rfl, hb1⟩
  rw [HD1.out]
  have HT1 := Lib.hid (tab_kept HT.out hb1)
  go_wp2_with fail
  refine (implDecText_any N n0 n1 _ HT1.out).mono ?_
  rintro e w2 ⟨rfl, hb2⟩
  rw [HTT.out]
  have hb12 := hb1.trans (hb2.mono hb1.size)
  go_wp2_with fail
  refine (drawHex_any w.heap.size a len cap z w2 (hc.kept hb12) hb12.size).mono ?_
  rintro e w3 ⟨rfl, hb3⟩
  rw [HD1.out, HD2.out]
  have hb13 := hb12.trans (hb3.mono hb12.size)
  go_wp2_with fail
  refine (implHexText_any N _ n1 _).mono ?_
  rintro e w4 ⟨rfl, hw4⟩
  rw [HS.out]
  have hb14 : Below w.heap.size w w4 := by
    rcases hw4 with rfl | ⟨C, rfl⟩
    · exact hb13
    · exact hb13.alloc hb13.size _
  clear hw4 hb1 hb2 hb3 hb12 hb13
  go_wp2_with fail
  refine (specDecText_any N n0 n1 _).mono ?_
  rintro e w' ⟨rfl, rfl⟩
  rw [HTT.out]
  go_wp2_with fail
  refine (specHexText_any N _ n1 _).mono ?_
  rintro e w' ⟨rfl, rfl⟩
  rw [HS.out]
  go_wp2_with fail
  refine (implReadHex_any S _ _ hss).mono ?_
  rintro e w5 ⟨rfl, hw5⟩
  rw [HLOW.out]
  have hb15 : Below w.heap.size w w5 := by
    rcases hw5 with rfl | ⟨p, rfl⟩
    · exact hb14
    · exact hb14.alloc hb14.size _
  clear hw5
  go_wp2_with fail
  refine (implReadDec_any T _ hsz).mono ?_
  rintro e w6 ⟨rfl, hw6⟩
  rw [HRT.out]
  go_wp2
  go_ret
  refine ⟨by simp, ?_⟩
  rcases hw6 with rfl | ⟨p, rfl⟩
  · exact hb15
  · exact hb15.alloc hb15.size _

set_option maxRecDepth 100000 in
set_option maxHeartbeats 800000 in
theorem walkB6_in (a : Option Addr) (len cap : Nat) (z : List Int) (N : Int) (w : World) (hc : CodeRow w.heap.size w a len z) (ht : Lib.TabIs Tryd.prog w "internal/strconv.uint64pow10" .u64 Lib.pow10Tab) (hD : Dec z len N 6) (hN0 : 0 ≤ N) (hN1 : N ≤ 999999999) :
    Calls Tryd.prog 3 #[.slice a len cap] w fun e w' => e = .returned (.bool true) ∧ Below w.heap.size w w' := by
  have hl := hc.1
  obtain ⟨d1, d2, n0, n1⟩ := hD
  have HD1 := Lib.hid d1
  have HD2 := Lib.hid d2
  have HT := Lib.hid ht
  have HRD := Lib.hid (rdec_itoa_in N hN0 hN1)
  have hsz := itoa_size N n0 n1
  obtain ⟨T, HTT⟩ : ∃ T, Hid (ByteArray.mk (itoa N).toArray = T) := ⟨_, Lib.hid rfl⟩
  have HRT := Lib.hid (show rdec T.data.toList = N by rw [← HTT.out]; exact HRD.out)
  rw [HTT.out] at hsz
  obtain ⟨S, HS⟩ : ∃ S, Hid (ByteArray.mk (hexT N 6).toArray = S) := ⟨_, Lib.hid rfl⟩
  have HLOW := Lib.hid (show rhex S 6 = bits BinOp.and IntKind.i64 N 16777215 from low_fact 6 N 16777215 S HS.out hN0 n1 (by decide) (by decide) (by decide))
  have hss : S.size ≤ maxLen := by rw [← HS.out]; exact hex_size _ _
  have hpos := hex_pos 6 N S HS.out hN0 (by decide) (by decide)
  have hne := list_ne S hpos
  have hie := list_empty S hpos
  clear d1 d2 ht
  have hbig : decide ((1048576 : Int) < len) = false := by simp; omega
  go_enter Tryd.func3, Tryd.ntmps3
  go_wp2_with fail
  refine (big_any _ _ _ _ (by omega)).mono ?_
  rintro e w' ⟨rfl, rfl⟩
  rw [hbig]
  clear hbig
  go_wp2_with fail
  refine (drawDec_any w.heap.size a len cap z w hc (Nat.le_refl _)).mono ?_
  rintro e w1 ⟨rfl, hb1⟩
  rw [HD1.out]
  have HT1 := Lib.hid (tab_kept HT.out hb1)
  go_wp2_with fail
  refine (implDecText_any N n0 n1 _ HT1.out).mono ?_
  rintro e w2 ⟨rfl, hb2⟩
  rw [HTT.out]
  have hb12 := hb1.trans (hb2.mono hb1.size)
  go_wp2_with fail
  refine (drawHex_any w.heap.size a len cap z w2 (hc.kept hb12) hb12.size).mono ?_
  rintro e w3 ⟨rfl, hb3⟩
  rw [HD1.out, HD2.out]
  have hb13 := hb12.trans (hb3.mono hb12.size)
  go_wp2_with fail
  refine (implHexText_any N _ n1 _).mono ?_
  rintro e w4 ⟨rfl, hw4⟩
  rw [HS.out]
  have hb14 : Below w.heap.size w w4 := by
    rcases hw4 with rfl | ⟨C, rfl⟩
    · exact hb13
    · exact hb13.alloc hb13.size _
  clear hw4 hb1 hb2 hb3 hb12 hb13
  go_wp2_with fail
  refine (specDecText_any N n0 n1 _).mono ?_
  rintro e w' ⟨rfl, rfl⟩
  rw [HTT.out]
  go_wp2_with fail
  refine (specHexText_any N _ n1 _).mono ?_
  rintro e w' ⟨rfl, rfl⟩
  rw [HS.out]
  go_wp2_with fail
  refine (implReadHex_any S _ _ hss).mono ?_
  rintro e w5 ⟨rfl, hw5⟩
  rw [HLOW.out]
  have hb15 : Below w.heap.size w w5 := by
    rcases hw5 with rfl | ⟨p, rfl⟩
    · exact hb14
    · exact hb14.alloc hb14.size _
  clear hw5
  go_wp2_with fail
  refine (implReadDec_any T _ hsz).mono ?_
  rintro e w6 ⟨rfl, hw6⟩
  rw [HRT.out]
  go_wp2
  go_ret
  refine ⟨by simp, ?_⟩
  rcases hw6 with rfl | ⟨p, rfl⟩
  · exact hb15
  · exact hb15.alloc hb15.size _

set_option maxRecDepth 100000 in
set_option maxHeartbeats 800000 in
theorem walkB6_out (a : Option Addr) (len cap : Nat) (z : List Int) (N : Int) (w : World) (hc : CodeRow w.heap.size w a len z) (ht : Lib.TabIs Tryd.prog w "internal/strconv.uint64pow10" .u64 Lib.pow10Tab) (hD : Dec z len N 6) (hN0 : 0 ≤ N) (hN1 : 999999999 < N) :
    Calls Tryd.prog 3 #[.slice a len cap] w fun e w' => e = .returned (.bool true) ∧ Below w.heap.size w w' := by
  have hl := hc.1
  obtain ⟨d1, d2, n0, n1⟩ := hD
  have HD1 := Lib.hid d1
  have HD2 := Lib.hid d2
  have HT := Lib.hid ht
  have HRD := Lib.hid (rdec_itoa_out N (.inr hN1))
  have hsz := itoa_size N n0 n1
  obtain ⟨T, HTT⟩ : ∃ T, Hid (ByteArray.mk (itoa N).toArray = T) := ⟨_, Lib.hid rfl⟩
  have HRT := Lib.hid (show rdec T.data.toList = -1 by rw [← HTT.out]; exact HRD.out)
  rw [HTT.out] at hsz
  obtain ⟨S, HS⟩ : ∃ S, Hid (ByteArray.mk (hexT N 6).toArray = S) := ⟨_, Lib.hid rfl⟩
  have HLOW := Lib.hid (show rhex S 6 = bits BinOp.and IntKind.i64 N 16777215 from low_fact 6 N 16777215 S HS.out hN0 n1 (by decide) (by decide) (by decide))
  have hss : S.size ≤ maxLen := by rw [← HS.out]; exact hex_size _ _
  have hpos := hex_pos 6 N S HS.out hN0 (by decide) (by decide)
  have hne := list_ne S hpos
  have hie := list_empty S hpos
  clear d1 d2 ht
  have hbig : decide ((1048576 : Int) < len) = false := by simp; omega
  go_enter Tryd.func3, Tryd.ntmps3
  go_wp2_with fail
  refine (big_any _ _ _ _ (by omega)).mono ?_
  rintro e w' ⟨rfl, rfl⟩
  rw [hbig]
  clear hbig
  go_wp2_with fail
  refine (drawDec_any w.heap.size a len cap z w hc (Nat.le_refl _)).mono ?_
  rintro e w1 ⟨rfl, hb1⟩
  rw [HD1.out]
  have HT1 := Lib.hid (tab_kept HT.out hb1)
  go_wp2_with fail
  refine (implDecText_any N n0 n1 _ HT1.out).mono ?_
  rintro e w2 ⟨rfl, hb2⟩
  rw [HTT.out]
  have hb12 := hb1.trans (hb2.mono hb1.size)
  go_wp2_with fail
  refine (drawHex_any w.heap.size a len cap z w2 (hc.kept hb12) hb12.size).mono ?_
  rintro e w3 ⟨rfl, hb3⟩
  rw [HD1.out, HD2.out]
  have hb13 := hb12.trans (hb3.mono hb12.size)
  go_wp2_with fail
  refine (implHexText_any N _ n1 _).mono ?_
  rintro e w4 ⟨rfl, hw4⟩
  rw [HS.out]
  have hb14 : Below w.heap.size w w4 := by
    rcases hw4 with rfl | ⟨C, rfl⟩
    · exact hb13
    · exact hb13.alloc hb13.size _
  clear hw4 hb1 hb2 hb3 hb12 hb13
  go_wp2_with fail
  refine (specDecText_any N n0 n1 _).mono ?_
  rintro e w' ⟨rfl, rfl⟩
  rw [HTT.out]
  go_wp2_with fail
  refine (specHexText_any N _ n1 _).mono ?_
  rintro e w' ⟨rfl, rfl⟩
  rw [HS.out]
  go_wp2_with fail
  refine (implReadHex_any S _ _ hss).mono ?_
  rintro e w5 ⟨rfl, hw5⟩
  rw [HLOW.out]
  have hb15 : Below w.heap.size w w5 := by
    rcases hw5 with rfl | ⟨p, rfl⟩
    · exact hb14
    · exact hb14.alloc hb14.size _
  clear hw5
  go_wp2_with fail
  refine (implReadDec_any T _ hsz).mono ?_
  rintro e w6 ⟨rfl, hw6⟩
  rw [HRT.out]
  go_wp2
  go_ret
  refine ⟨by simp, ?_⟩
  rcases hw6 with rfl | ⟨p, rfl⟩
  · exact hb15
  · exact hb15.alloc hb15.size _

set_option maxRecDepth 100000 in
set_option maxHeartbeats 800000 in
theorem walkB7_in (a : Option Addr) (len cap : Nat) (z : List Int) (N : Int) (w : World) (hc : CodeRow w.heap.size w a len z) (ht : Lib.TabIs Tryd.prog w "internal/strconv.uint64pow10" .u64 Lib.pow10Tab) (hD : Dec z len N 7) (hN0 : 0 ≤ N) (hN1 : N ≤ 999999999) :
    Calls Tryd.prog 3 #[.slice a len cap] w fun e w' => e = .returned (.bool true) ∧ Below w.heap.size w w' := by
  have hl := hc.1
  obtain ⟨d1, d2, n0, n1⟩ := hD
  have HD1 := Lib.hid d1
  have HD2 := Lib.hid d2
  have HT := Lib.hid ht
  have HRD := Lib.hid (rdec_itoa_in N hN0 hN1)
  have hsz := itoa_size N n0 n1
  obtain ⟨T, HTT⟩ : ∃ T, Hid (ByteArray.mk (itoa N).toArray = T) := ⟨_, Lib.hid rfl⟩
  have HRT := Lib.hid (show rdec T.data.toList = N by rw [← HTT.out]; exact HRD.out)
  rw [HTT.out] at hsz
  obtain ⟨S, HS⟩ : ∃ S, Hid (ByteArray.mk (hexT N 7).toArray = S) := ⟨_, Lib.hid rfl⟩
  have HLOW := Lib.hid (show rhex S 7 = bits BinOp.and IntKind.i64 N 268435455 from low_fact 7 N 268435455 S HS.out hN0 n1 (by decide) (by decide) (by decide))
  have hss : S.size ≤ maxLen := by rw [← HS.out]; exact hex_size _ _
  have hpos := hex_pos 7 N S HS.out hN0 (by decide) (by decide)
  have hne := list_ne S hpos
  have hie := list_empty S hpos
  clear d1 d2 ht
  have hbig : decide ((1048576 : Int) < len) = false := by simp; omega
  go_enter Tryd.func3, Tryd.ntmps3
  go_wp2_with fail
  refine (big_any _ _ _ _ (by omega)).mono ?_
  rintro e w' ⟨rfl, rfl⟩
  rw [hbig]
  clear hbig
  go_wp2_with fail
  refine (drawDec_any w.heap.size a len cap z w hc (Nat.le_refl _)).mono ?_
  rintro e w1 ⟨rfl, hb1⟩
  rw [HD1.out]
  have HT1 := Lib.hid (tab_kept HT.out hb1)
  go_wp2_with fail
  refine (implDecText_any N n0 n1 _ HT1.out).mono ?_
  rintro e w2 ⟨rfl, hb2⟩
  rw [HTT.out]
  have hb12 := hb1.trans (hb2.mono hb1.size)
  go_wp2_with fail
  refine (drawHex_any w.heap.size a len cap z w2 (hc.kept hb12) hb12.size).mono ?_
  rintro e w3 ⟨rfl, hb3⟩
  rw [HD1.out, HD2.out]
  have hb13 := hb12.trans (hb3.mono hb12.size)
  go_wp2_with fail
  refine (implHexText_any N _ n1 _).mono ?_
  rintro e w4 ⟨rfl, hw4⟩
  rw [HS.out]
  have hb14 : Below w.heap.size w w4 := by
    rcases hw4 with rfl | ⟨C, rfl⟩
    · exact hb13
    · exact hb13.alloc hb13.size _
  clear hw4 hb1 hb2 hb3 hb12 hb13
  go_wp2_with fail
  refine (specDecText_any N n0 n1 _).mono ?_
  rintro e w' ⟨rfl, rfl⟩
  rw [HTT.out]
  go_wp2_with fail
  refine (specHexText_any N _ n1 _).mono ?_
  rintro e w' ⟨rfl, rfl⟩
  rw [HS.out]
  go_wp2_with fail
  refine (implReadHex_any S _ _ hss).mono ?_
  rintro e w5 ⟨rfl, hw5⟩
  rw [HLOW.out]
  have hb15 : Below w.heap.size w w5 := by
    rcases hw5 with rfl | ⟨p, rfl⟩
    · exact hb14
    · exact hb14.alloc hb14.size _
  clear hw5
  go_wp2_with fail
  refine (implReadDec_any T _ hsz).mono ?_
  rintro e w6 ⟨rfl, hw6⟩
  rw [HRT.out]
  go_wp2
  go_ret
  refine ⟨by simp, ?_⟩
  rcases hw6 with rfl | ⟨p, rfl⟩
  · exact hb15
  · exact hb15.alloc hb15.size _

set_option maxRecDepth 100000 in
set_option maxHeartbeats 800000 in
theorem walkB7_out (a : Option Addr) (len cap : Nat) (z : List Int) (N : Int) (w : World) (hc : CodeRow w.heap.size w a len z) (ht : Lib.TabIs Tryd.prog w "internal/strconv.uint64pow10" .u64 Lib.pow10Tab) (hD : Dec z len N 7) (hN0 : 0 ≤ N) (hN1 : 999999999 < N) :
    Calls Tryd.prog 3 #[.slice a len cap] w fun e w' => e = .returned (.bool true) ∧ Below w.heap.size w w' := by
  have hl := hc.1
  obtain ⟨d1, d2, n0, n1⟩ := hD
  have HD1 := Lib.hid d1
  have HD2 := Lib.hid d2
  have HT := Lib.hid ht
  have HRD := Lib.hid (rdec_itoa_out N (.inr hN1))
  have hsz := itoa_size N n0 n1
  obtain ⟨T, HTT⟩ : ∃ T, Hid (ByteArray.mk (itoa N).toArray = T) := ⟨_, Lib.hid rfl⟩
  have HRT := Lib.hid (show rdec T.data.toList = -1 by rw [← HTT.out]; exact HRD.out)
  rw [HTT.out] at hsz
  obtain ⟨S, HS⟩ : ∃ S, Hid (ByteArray.mk (hexT N 7).toArray = S) := ⟨_, Lib.hid rfl⟩
  have HLOW := Lib.hid (show rhex S 7 = bits BinOp.and IntKind.i64 N 268435455 from low_fact 7 N 268435455 S HS.out hN0 n1 (by decide) (by decide) (by decide))
  have hss : S.size ≤ maxLen := by rw [← HS.out]; exact hex_size _ _
  have hpos := hex_pos 7 N S HS.out hN0 (by decide) (by decide)
  have hne := list_ne S hpos
  have hie := list_empty S hpos
  clear d1 d2 ht
  have hbig : decide ((1048576 : Int) < len) = false := by simp; omega
  go_enter Tryd.func3, Tryd.ntmps3
  go_wp2_with fail
  refine (big_any _ _ _ _ (by omega)).mono ?_
  rintro e w' ⟨rfl, rfl⟩
  rw [hbig]
  clear hbig
  go_wp2_with fail
  refine (drawDec_any w.heap.size a len cap z w hc (Nat.le_refl _)).mono ?_
  rintro e w1 ⟨rfl, hb1⟩
  rw [HD1.out]
  have HT1 := Lib.hid (tab_kept HT.out hb1)
  go_wp2_with fail
  refine (implDecText_any N n0 n1 _ HT1.out).mono ?_
  rintro e w2 ⟨rfl, hb2⟩
  rw [HTT.out]
  have hb12 := hb1.trans (hb2.mono hb1.size)
  go_wp2_with fail
  refine (drawHex_any w.heap.size a len cap z w2 (hc.kept hb12) hb12.size).mono ?_
  rintro e w3 ⟨rfl, hb3⟩
  rw [HD1.out, HD2.out]
  have hb13 := hb12.trans (hb3.mono hb12.size)
  go_wp2_with fail
  refine (implHexText_any N _ n1 _).mono ?_
  rintro e w4 ⟨rfl, hw4⟩
  rw [HS.out]
  have hb14 : Below w.heap.size w w4 := by
    rcases hw4 with rfl | ⟨C, rfl⟩
    · exact hb13
    · exact hb13.alloc hb13.size _
  clear hw4 hb1 hb2 hb3 hb12 hb13
  go_wp2_with fail
  refine (specDecText_any N n0 n1 _).mono ?_
  rintro e w' ⟨rfl, rfl⟩
  rw [HTT.out]
  go_wp2_with fail
  refine (specHexText_any N _ n1 _).mono ?_
  rintro e w' ⟨rfl, rfl⟩
  rw [HS.out]
  go_wp2_with fail
  refine (implReadHex_any S _ _ hss).mono ?_
  rintro e w5 ⟨rfl, hw5⟩
  rw [HLOW.out]
  have hb15 : Below w.heap.size w w5 := by
    rcases hw5 with rfl | ⟨p, rfl⟩
    · exact hb14
    · exact hb14.alloc hb14.size _
  clear hw5
  go_wp2_with fail
  refine (implReadDec_any T _ hsz).mono ?_
  rintro e w6 ⟨rfl, hw6⟩
  rw [HRT.out]
  go_wp2
  go_ret
  refine ⟨by simp, ?_⟩
  rcases hw6 with rfl | ⟨p, rfl⟩
  · exact hb15
  · exact hb15.alloc hb15.size _

set_option maxRecDepth 100000 in
set_option maxHeartbeats 800000 in
theorem walkB8_in (a : Option Addr) (len cap : Nat) (z : List Int) (N : Int) (w : World) (hc : CodeRow w.heap.size w a len z) (ht : Lib.TabIs Tryd.prog w "internal/strconv.uint64pow10" .u64 Lib.pow10Tab) (hD : Dec z len N 8) (hN0 : 0 ≤ N) (hN1 : N ≤ 999999999) :
    Calls Tryd.prog 3 #[.slice a len cap] w fun e w' => e = .returned (.bool true) ∧ Below w.heap.size w w' := by
  have hl := hc.1
  obtain ⟨d1, d2, n0, n1⟩ := hD
  have HD1 := Lib.hid d1
  have HD2 := Lib.hid d2
  have HT := Lib.hid ht
  have HRD := Lib.hid (rdec_itoa_in N hN0 hN1)
  have hsz := itoa_size N n0 n1
  obtain ⟨T, HTT⟩ : ∃ T, Hid (ByteArray.mk (itoa N).toArray = T) := ⟨_, Lib.hid rfl⟩
  have HRT := Lib.hid (show rdec T.data.toList = N by rw [← HTT.out]; exact HRD.out)
  rw [HTT.out] at hsz
  obtain ⟨S, HS⟩ : ∃ S, Hid (ByteArray.mk (hexT N 8).toArray = S) := ⟨_, Lib.hid rfl⟩
  have HLOW := Lib.hid (show rhex S 8 = bits BinOp.and IntKind.i64 N 4294967295 from low_fact 8 N 4294967295 S HS.out hN0 n1 (by decide) (by decide) (by decide))
  have hss : S.size ≤ maxLen := by rw [← HS.out]; exact hex_size _ _
  have hpos := hex_pos 8 N S HS.out hN0 (by decide) (by decide)
  have hne := list_ne S hpos
  have hie := list_empty S hpos
  clear d1 d2 ht
  have hbig : decide ((1048576 : Int) < len) = false := by simp; omega
  go_enter Tryd.func3, Tryd.ntmps3
  go_wp2_with fail
  refine (big_any _ _ _ _ (by omega)).mono ?_
  rintro e w' ⟨rfl, rfl⟩
  rw [hbig]
  clear hbig
  go_wp2_with fail
  refine (drawDec_any w.heap.size a len cap z w hc (Nat.le_refl _)).mono ?_
  rintro e w1 ⟨rfl, hb1⟩
  rw [HD1.out]
  have HT1 := Lib.hid (tab_kept HT.out hb1)
  go_wp2_with fail
  refine (implDecText_any N n0 n1 _ HT1.out).mono ?_
  rintro e w2 ⟨rfl, hb2⟩
  rw [HTT.out]
  have hb12 := hb1.trans (hb2.mono hb1.size)
  go_wp2_with fail
  refine (drawHex_any w.heap.size a len cap z w2 (hc.kept hb12) hb12.size).mono ?_
  rintro e w3 ⟨rfl, hb3⟩
  rw [HD1.out, HD2.out]
  have hb13 := hb12.trans (hb3.mono hb12.size)
  go_wp2_with fail
  refine (implHexText_any N _ n1 _).mono ?_
  rintro e w4 ⟨rfl, hw4⟩
  rw [HS.out]
  have hb14 : Below w.heap.size w w4 := by
    rcases hw4 with rfl | ⟨C, rfl⟩
    · exact hb13
    · exact hb13.alloc hb13.size _
  clear hw4 hb1 hb2 hb3 hb12 hb13
  go_wp2_with fail
  refine (specDecText_any N n0 n1 _).mono ?_
  rintro e w' ⟨rfl, rfl⟩
  rw [HTT.out]
  go_wp2_with fail
  refine (specHexText_any N _ n1 _).mono ?_
  rintro e w' ⟨rfl, rfl⟩
  rw [HS.out]
  go_wp2_with fail
  refine (implReadHex_any S _ _ hss).mono ?_
  rintro e w5 ⟨rfl, hw5⟩
  rw [HLOW.out]
  have hb15 : Below w.heap.size w w5 := by
    rcases hw5 with rfl | ⟨p, rfl⟩
    · exact hb14
    · exact hb14.alloc hb14.size _
  clear hw5
  go_wp2_with fail
  refine (implReadDec_any T _ hsz).mono ?_
  rintro e w6 ⟨rfl, hw6⟩
  rw [HRT.out]
  go_wp2
  go_ret
  refine ⟨by simp, ?_⟩
  rcases hw6 with rfl | ⟨p, rfl⟩
  · exact hb15
  · exact hb15.alloc hb15.size _

set_option maxRecDepth 100000 in
set_option maxHeartbeats 800000 in
theorem walkB8_out (a : Option Addr) (len cap : Nat) (z : List Int) (N : Int) (w : World) (hc : CodeRow w.heap.size w a len z) (ht : Lib.TabIs Tryd.prog w "internal/strconv.uint64pow10" .u64 Lib.pow10Tab) (hD : Dec z len N 8) (hN0 : 0 ≤ N) (hN1 : 999999999 < N) :
    Calls Tryd.prog 3 #[.slice a len cap] w fun e w' => e = .returned (.bool true) ∧ Below w.heap.size w w' := by
  have hl := hc.1
  obtain ⟨d1, d2, n0, n1⟩ := hD
  have HD1 := Lib.hid d1
  have HD2 := Lib.hid d2
  have HT := Lib.hid ht
  have HRD := Lib.hid (rdec_itoa_out N (.inr hN1))
  have hsz := itoa_size N n0 n1
  obtain ⟨T, HTT⟩ : ∃ T, Hid (ByteArray.mk (itoa N).toArray = T) := ⟨_, Lib.hid rfl⟩
  have HRT := Lib.hid (show rdec T.data.toList = -1 by rw [← HTT.out]; exact HRD.out)
  rw [HTT.out] at hsz
  obtain ⟨S, HS⟩ : ∃ S, Hid (ByteArray.mk (hexT N 8).toArray = S) := ⟨_, Lib.hid rfl⟩
  have HLOW := Lib.hid (show rhex S 8 = bits BinOp.and IntKind.i64 N 4294967295 from low_fact 8 N 4294967295 S HS.out hN0 n1 (by decide) (by decide) (by decide))
  have hss : S.size ≤ maxLen := by rw [← HS.out]; exact hex_size _ _
  have hpos := hex_pos 8 N S HS.out hN0 (by decide) (by decide)
  have hne := list_ne S hpos
  have hie := list_empty S hpos
  clear d1 d2 ht
  have hbig : decide ((1048576 : Int) < len) = false := by simp; omega
  go_enter Tryd.func3, Tryd.ntmps3
  go_wp2_with fail
  refine (big_any _ _ _ _ (by omega)).mono ?_
  rintro e w' ⟨rfl, rfl⟩
  rw [hbig]
  clear hbig
  go_wp2_with fail
  refine (drawDec_any w.heap.size a len cap z w hc (Nat.le_refl _)).mono ?_
  rintro e w1 ⟨rfl, hb1⟩
  rw [HD1.out]
  have HT1 := Lib.hid (tab_kept HT.out hb1)
  go_wp2_with fail
  refine (implDecText_any N n0 n1 _ HT1.out).mono ?_
  rintro e w2 ⟨rfl, hb2⟩
  rw [HTT.out]
  have hb12 := hb1.trans (hb2.mono hb1.size)
  go_wp2_with fail
  refine (drawHex_any w.heap.size a len cap z w2 (hc.kept hb12) hb12.size).mono ?_
  rintro e w3 ⟨rfl, hb3⟩
  rw [HD1.out, HD2.out]
  have hb13 := hb12.trans (hb3.mono hb12.size)
  go_wp2_with fail
  refine (implHexText_any N _ n1 _).mono ?_
  rintro e w4 ⟨rfl, hw4⟩
  rw [HS.out]
  have hb14 : Below w.heap.size w w4 := by
    rcases hw4 with rfl | ⟨C, rfl⟩
    · exact hb13
    · exact hb13.alloc hb13.size _
  clear hw4 hb1 hb2 hb3 hb12 hb13
  go_wp2_with fail
  refine (specDecText_any N n0 n1 _).mono ?_
  rintro e w' ⟨rfl, rfl⟩
  rw [HTT.out]
  go_wp2_with fail
  refine (specHexText_any N _ n1 _).mono ?_
  rintro e w' ⟨rfl, rfl⟩
  rw [HS.out]
  go_wp2_with fail
  refine (implReadHex_any S _ _ hss).mono ?_
  rintro e w5 ⟨rfl, hw5⟩
  rw [HLOW.out]
  have hb15 : Below w.heap.size w w5 := by
    rcases hw5 with rfl | ⟨p, rfl⟩
    · exact hb14
    · exact hb14.alloc hb14.size _
  clear hw5
  go_wp2_with fail
  refine (implReadDec_any T _ hsz).mono ?_
  rintro e w6 ⟨rfl, hw6⟩
  rw [HRT.out]
  go_wp2
  go_ret
  refine ⟨by simp, ?_⟩
  rcases hw6 with rfl | ⟨p, rfl⟩
  · exact hb15
  · exact hb15.alloc hb15.size _

theorem walk_all (a : Option Addr) (len cap : Nat) (z : List Int) (w : World) (hc : CodeRow w.heap.size w a len z) (ht : Lib.TabIs Tryd.prog w "internal/strconv.uint64pow10" .u64 Lib.pow10Tab) :
    Calls Tryd.prog 3 #[.slice a len cap] w fun e w' => e = .returned (.bool true) ∧ Below w.heap.size w w' := by
  obtain ⟨N, hN⟩ : ∃ N, drawDecV z len = N := ⟨_, rfl⟩
  obtain ⟨D, hD⟩ : ∃ D, drawHexV z len = D := ⟨_, rfl⟩
  have hb := numV_bound z len (0, startH z len)
  have hb' : -9223372036854775808 ≤ N ∧ N ≤ 9223372036854775807 := by rw [← hN]; exact hb
  have hd : Dec z len N D := ⟨hN, hD, hb'.1, hb'.2⟩
  clear hb
  by_cases hA : N < 0 ∨ D < 1 ∨ 8 < D
  · by_cases hr : 0 ≤ N ∧ N ≤ 999999999
    · exact walkA_in a len cap z N D w hc ht hd hA hr.1 hr.2
    · exact walkA_out a len cap z N D w hc ht hd hA (by omega)
  · have h0 : 0 ≤ N := by omega
    have hcases : D = 1 ∨ D = 2 ∨ D = 3 ∨ D = 4 ∨ D = 5 ∨ D = 6 ∨ D = 7 ∨ D = 8 := by omega
    clear hN hD
    by_cases hr : N ≤ 999999999
    · rcases hcases with rfl | rfl | rfl | rfl | rfl | rfl | rfl | rfl
      · exact walkB1_in a len cap z N w hc ht hd h0 hr
      · exact walkB2_in a len cap z N w hc ht hd h0 hr
      · exact walkB3_in a len cap z N w hc ht hd h0 hr
      · exact walkB4_in a len cap z N w hc ht hd h0 hr
      · exact walkB5_in a len cap z N w hc ht hd h0 hr
      · exact walkB6_in a len cap z N w hc ht hd h0 hr
      · exact walkB7_in a len cap z N w hc ht hd h0 hr
      · exact walkB8_in a len cap z N w hc ht hd h0 hr
    · have hr' : 999999999 < N := by omega
      rcases hcases with rfl | rfl | rfl | rfl | rfl | rfl | rfl | rfl
      · exact walkB1_out a len cap z N w hc ht hd h0 hr'
      · exact walkB2_out a len cap z N w hc ht hd h0 hr'
      · exact walkB3_out a len cap z N w hc ht hd h0 hr'
      · exact walkB4_out a len cap z N w hc ht hd h0 hr'
      · exact walkB5_out a len cap z N w hc ht hd h0 hr'
      · exact walkB6_out a len cap z N w hc ht hd h0 hr'
      · exact walkB7_out a len cap z N w hc ht hd h0 hr'
      · exact walkB8_out a len cap z N w hc ht hd h0 hr'

theorem walk_big (a : Option Addr) (len cap : Nat) (w : World) (h : 1048576 < len) (hl : len ≤ 9223372036854775807) :
    Calls Tryd.prog 3 #[.slice a len cap] w fun e w' => e = .returned (.bool true) ∧ Below w.heap.size w w' := by
  have hbig : decide ((1048576 : Int) < len) = true := by simp; omega
  go_enter Tryd.func3, Tryd.ntmps3
  go_wp2_with fail
  refine (big_any _ _ _ _ hl).mono ?_
  rintro e w' ⟨rfl, rfl⟩
  rw [hbig]
  clear hbig
  go_wp2
  go_ret
  exact ⟨rfl, Below.refl _ _⟩

end Go.Proofs.YtcblinodfgdgfaaDoor
