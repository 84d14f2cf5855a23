/-
  The law FnReadOp, walked over any program whose functions keep the contracts of chapters 3 and 4.
-/
import Derived.Test.YtffhjoldiicgdaaAsmLaws2
namespace Go.Proofs.Ytffhjoldiicgdaa
set_option linter.unusedVariables false
set_option linter.unusedSimpArgs false
open Go.RowKit

/-- What is read has that text, told of the bytes as they lie in a row. -/
theorem read_row {t : ByteArray} {pc : Nat} {l : List Nat} (h : readOp t pc = some l) : ∃ (x0 k : Nat), x0 < 256 ∧ 1 ≤ k ∧ k ≤ 3 ∧ l.length = k ∧ opSize x0 = k ∧ l.getD 0 0 = x0 ∧ showOp k (l.getD 0 0) (l.getD 1 0) (l.getD 2 0) pc = t := by
  obtain ⟨x0, x1, x2, h0, h1, h2, hid, hl, ht⟩ := show_read h
  have z1 := opSize_pos h0 hid
  have z3 := (opSize_range h0).2
  obtain ⟨s1, s2, s3⟩ := sizes h0
  obtain ⟨k, hk⟩ : ∃ k : Nat, opSize x0 = k := ⟨(opSize x0).toNat, by omega⟩
  rw [hk, Int.toNat_natCast] at hl
  have hk' : k = 1 ∨ k = 2 ∨ k = 3 := by omega
  refine ⟨x0, k, h0, by omega, by omega, by rw [hl]; simp; omega, hk, ?_, ?_⟩
  · rcases hk' with rfl | rfl | rfl <;> rw [hl] <;> rfl
  · rcases hk' with rfl | rfl | rfl
    · rw [hl]
      show showOp 1 x0 0 0 pc = t
      rw [showOp_full hk (by omega), ← ht]
      rcases s1 (by omega) with e | e <;> simp [showTx, asmText, e]
    · rw [hl]
      show showOp 2 x0 x1 0 pc = t
      rw [showOp_full hk (by omega), ← ht]
      rcases s2 (by omega) with e | e | e | e | e | e | e <;> simp [showTx, asmText, e]
    · rw [hl]
      show showOp 3 x0 x1 x2 pc = t
      rw [showOp_full hk (by omega), ← ht]

set_option maxRecDepth 100000 in
set_option maxHeartbeats 1600000 in
theorem walkFnReadOp (HW : ImplShow) (HR : ImplRead) (HS : ImplSize) (a : Option Addr) (len cap : Nat) (z : List Int) (w : World) (hc : CodeRow w.heap.size w a len z) :
    Calls Try.prog 5 #[.slice a len cap] w fun e w' => e = .returned (.bool true) ∧ Below w.heap.size w w' := by
  have hl := hc.1
  have hbig : decide ((1048576 : Int) < len) = false := by simp; omega
  go_enter Try.func5, Try.ntmps5
  go_wp2_with fail
  refine (bigCode_any _ _ _ _).mono ?_
  rintro e w' ⟨rfl, rfl⟩
  rw [hbig]
  clear hbig
  go_wp2_with fail
  refine (drawRead_any w.heap.size a len cap z _ hc (Nat.le_refl _)).mono ?_
  rintro e w1 ⟨t, pc, ht, hp, rfl, k1⟩
  clear hc hl
  go_wp2_with fail
  refine (HR t pc _ hp ht).mono ?_
  rintro e w2 ⟨v2, rfl, o2, b2⟩
  have k2 := k1.trans (b2.mono k1.size)
  go_wp2_with fail
  refine (specRead_any t pc hp _ ht).mono ?_
  rintro e w3 ⟨v3, rfl, o3, b3⟩
  have k3 := k2.trans (b3.mono k2.size)
  have o23 := o2.below b3
  clear o2 o3 b2 b3 k1 k2
  cases hR : readOp t pc with
  | none =>
    rw [hR] at o23
    have o23 : OwnB w3 w1.heap.size v2 [] := o23
    obtain ⟨a2, c2, rfl⟩ := o23.len
    have hz : ([] : List Nat).length = 0 := rfl
    rw [hz]
    clear hz o23
    have hok : (none : Option (List Nat)).isSome = false := rfl
    rw [hok]
    clear hok
    go_wp2
    go_ret
    exact ⟨rfl, k3⟩
  | some l =>
    rw [hR] at o23
    have o23 : OwnB w3 w1.heap.size v2 l := o23
    obtain ⟨x0, k, hx, hk1, hk3, hlk, hsz, hl0, hshow⟩ := read_row hR
    have r3 : ∃ a2 c2, v2 = .slice a2 l.length c2 ∧ RowB w3 a2 l ∧ l.length ≤ c2 := by
      obtain ⟨a2, c2, rfl⟩ := o23.len
      exact ⟨a2, c2, rfl, o23.row.2, o23.cap⟩
    obtain ⟨a2, c2, rfl, hr3, hcap⟩ := r3
    have hcc := hr3.2 (by omega)
    obtain ⟨g, o, rfl, hg, hcl⟩ := hcc
    have cell0 := hcl 0 (by omega)
    rw [hl0] at cell0
    unfold u8V at cell0
    rw [Nat.add_zero] at cell0
    have HW' := HW (some ⟨g, o, none⟩) k c2 (l.getD 0 0) (l.getD 1 0) (l.getD 2 0) pc w3 (hr3.byte' 0) (hr3.byte' 1) (hr3.byte' 2) hp (by omega) (by omega) (by have := hr3.three'; rwa [hlk] at this)
    rw [hshow] at HW'
    have HS' := fun w => HS x0 w hx
    simp only [hsz] at HS'
    have hok : (some l).isSome = true := rfl
    rw [hok, hlk]
    have i0 : (0 : Int) ≤ 0 ∧ (0 : Int) < (k : Int) := by omega
    clear hok o23 hr3 hcl hR hlk hl0 hshow hsz hcap
    go_wp2_with fail
    refine HW'.mono ?_
    rintro e w4 ⟨rfl, b4⟩
    have k4 := k3.trans (b4.mono k3.size)
    have cell4 := cellKept b4 cell0 hg
    go_wp2_with fail
    refine (HS' _).mono ?_
    rintro e w5 ⟨rfl, b5⟩
    have k5 := k4.trans (b5.mono k4.size)
    go_wp2
    go_ret
    exact ⟨rfl, k5⟩

end Go.Proofs.Ytffhjoldiicgdaa
