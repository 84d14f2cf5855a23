/-
  The laws FnAsm and FnReadOp, walked over any program whose functions keep the contracts of chapters 3 and 4.
-/
import Derived.Test.YtffhjoldiicgdaaAsmLaws
import Derived.Test.YtffhjoldiicgdaaCodesLaw
import Derived.Test.YtffhjoldiicgdaaDrawAsm3
namespace Go.Proofs.Ytffhjoldiicgdaa
set_option linter.unusedVariables false
set_option linter.unusedSimpArgs false
open Go.RowKit

theorem take3 {L : List Nat} {k : Nat} (hk : k ≤ L.length) (h3 : k ≤ 3) : L.take k = [L.getD 0 0, L.getD 1 0, L.getD 2 0].take k := by
  have hk' : k = 0 ∨ k = 1 ∨ k = 2 ∨ k = 3 := by omega
  rcases hk' with rfl | rfl | rfl | rfl
  · simp
  · match L, hk with
    | x :: r, _ => simp [List.getD]
  · match L, hk with
    | x :: y :: r, _ => simp [List.getD]
  · match L, hk with
    | x :: y :: z :: r, _ => simp [List.getD]

theorem showOp_some {n x0 x1 x2 pc : Nat} (h0 : x0 < 256) (h : (showOp n x0 x1 x2 pc).toList.isEmpty = false) : opId x0 ≠ 0 ∧ 1 ≤ opSize x0 ∧ opSize x0 ≤ n ∧ opSize x0 ≤ 3 ∧ showOp n x0 x1 x2 pc = showTx x0 x1 x2 pc := by
  have h3 := opSize_range h0
  unfold showOp at h ⊢
  split at h
  · rw [empty_iff] at h; simp at h
  · rename_i hc
    rw [if_neg hc]
    refine ⟨fun e => hc (.inr (.inl (by unfold opSize; rw [if_pos e]))), by omega, by omega, by omega, rfl⟩

set_option maxRecDepth 100000 in
set_option maxHeartbeats 1600000 in
theorem walkFnAsm (HW : ImplShow) (HR : ImplRead) (HS : ImplSize) (a : Option Addr) (len cap : Nat) (z : List Int) (w : World) (hc : CodeRow w.heap.size w a len z) :
    Calls Try.prog 3 #[.slice a len cap] w fun e w' => e = .returned (.bool true) ∧ Below w.heap.size w w' := by
  have hl := hc.1
  have hbig : decide ((1048576 : Int) < len) = false := by simp; omega
  go_enter Try.func3, Try.ntmps3
  go_wp2_with fail
  refine (bigCode_any _ _ _ _).mono ?_
  rintro e w' ⟨rfl, rfl⟩
  rw [hbig]
  clear hbig
  go_wp2_with fail
  refine (drawShow_any w.heap.size a len cap z _ hc (Nat.le_refl _)).mono ?_
  rintro e w1 ⟨b, c, L, pc, hLc, hL, hp, rfl, hr1, k1⟩
  clear hc hl
  have hx := hr1.byte' 0
  have hx1 := hr1.byte' 1
  have hx2 := hr1.byte' 2
  have t3 := fun (w : World) (h : RowB w b L) => h.three'
  have htk := fun k h1 h2 => take3 (L := L) (k := k) h1 h2
  have hcl0 := fun (w : World) (h : RowB w b L) (hl : 0 < L.length) => h.2 hl
  obtain ⟨X0, hX0⟩ : ∃ X0, L.getD 0 0 = X0 := ⟨_, rfl⟩
  obtain ⟨X1, hX1⟩ : ∃ X1, L.getD 1 0 = X1 := ⟨_, rfl⟩
  obtain ⟨X2, hX2⟩ : ∃ X2, L.getD 2 0 = X2 := ⟨_, rfl⟩
  rw [hX0] at hx
  rw [hX1] at hx1
  rw [hX2] at hx2
  simp only [hX0, hX1, hX2] at t3 htk
  have HX0 := Lib.hid hX0
  clear hX0 hX1 hX2
  have HW1 := fun w h => HW b L.length c X0 X1 X2 pc w hx hx1 hx2 hp hLc hL h
  have HW2 := fun w h => specShow_any b L.length c X0 X1 X2 pc hx hx1 hx2 hp w h
  have hsz := showOp_size L.length X0 X1 X2 pc hx
  have hso := fun h => showOp_some (n := L.length) (x1 := X1) (x2 := X2) (pc := pc) hx h
  obtain ⟨T, hT⟩ : ∃ T, showOp L.length X0 X1 X2 pc = T := ⟨_, rfl⟩
  rw [hT] at hsz
  simp only [hT] at HW1 HW2 hso
  clear hT
  have HT3 := Lib.hid t3
  have HTK := Lib.hid htk
  have HC0 := Lib.hid hcl0
  have HSO := Lib.hid hso
  clear t3 htk hcl0 hso
  go_wp2_with fail
  refine (HW1 _ (HT3.out _ hr1)).mono ?_
  rintro e w2 ⟨rfl, b2⟩
  have k2 := k1.trans (b2.mono k1.size)
  have hr2 := hr1.below b2
  go_wp2_with fail
  refine (HW2 _ (HT3.out _ hr2)).mono ?_
  rintro e w3 ⟨rfl, b3⟩
  have k3 := k2.trans (b3.mono k2.size)
  have hr3 := hr2.below b3
  clear b2 b3 k1 k2 hr1 hr2 HW1 HW2
  cases hE : T.toList.isEmpty with
  | true =>
    go_wp2
    go_ret
    exact ⟨rfl, k3⟩
  | false =>
    obtain ⟨hid, s1, sn, s3, hTx⟩ := HSO.out hE
    have hrd : readOp T pc = some ([X0, X1, X2].take (opSize X0).toNat) := by rw [hTx]; exact read_show hx hx1 hx2 hid
    obtain ⟨k, hk⟩ : ∃ k : Nat, opSize X0 = k := ⟨(opSize X0).toNat, by omega⟩
    rw [hk] at s1 sn s3 hrd
    rw [Int.toNat_natCast, ← HTK.out k (by omega) (by omega)] at hrd
    have HS' := fun w => HS X0 w hx
    simp only [hk] at HS'
    obtain ⟨M, hM⟩ : ∃ M, L.take k = M := ⟨_, rfl⟩
    have hMl : M.length = k := by rw [← hM]; simp; omega
    rw [hM] at hrd
    have HM := Lib.hid hM
    clear hM
    have HRD := Lib.hid hrd
    obtain ⟨g, o, rfl, hg, hcl⟩ := HC0.out _ hr3 (by omega)
    have cell0 := hcl 0 (by omega)
    rw [HX0.out] at cell0
    unfold u8V at cell0
    rw [Nat.add_zero] at cell0
    have i0 : (0 : Int) ≤ 0 ∧ (0 : Int) < (L.length : Int) := by omega
    have ik : (0 : Int) ≤ (k : Int) ∧ (k : Int) ≤ (c : Int) := by omega
    clear hTx hrd hcl hk hid
    go_wp2_with fail
    refine (HR T pc _ hp (by omega)).mono ?_
    rintro e w4 ⟨v4, rfl, o4, b4⟩
    rw [HRD.out] at o4 ⊢
    have o4 : OwnB w4 w3.heap.size v4 M := o4
    have k4 := k3.trans (b4.mono k3.size)
    have hr4 := hr3.below b4
    have cell4 := cellKept b4 cell0 hg
    obtain ⟨a4, c4, rfl⟩ := o4.len
    have HEQ := fun w h1 h2 => sameB_true a4 (some ⟨g, o, none⟩) c4 c M w (by omega) h1 h2
    simp only [hMl] at HEQ
    rw [hMl]
    go_wp2_with fail
    refine (HS' _).mono ?_
    rintro e w5 ⟨rfl, b5⟩
    have k5 := k4.trans (b5.mono k4.size)
    have r5 : RowB w5 (some ⟨g, o, none⟩) M := by have := (hr4.below b5).take k (by omega); rwa [HM.out] at this
    have o5 := o4.below b5
    have ro5 : RowB w5 a4 M := o5.row.2
    go_wp2_with fail
    refine (HEQ _ ro5 r5).mono ?_
    rintro e w6 ⟨rfl, d6, rfl⟩
    go_wp2
    go_ret
    exact ⟨rfl, below_drewN k5 d6⟩

end Go.Proofs.Ytffhjoldiicgdaa
