/-
  The exact law of Listing, walked over any program whose function keeps its contract.
-/
import Derived.Test.YtffhjoldiicgdabAsmLaws
import Derived.Test.YtffhjoldiicgdabMarks
namespace Go.Proofs.Ytffhjoldiicgdab
set_option linter.unusedVariables false
set_option linter.unusedSimpArgs false
open Go.RowKit

theorem ownS_ne {w w' : World} {base g : Nat} {v : Value} {L : List ByteArray} (h : OwnStrs w base v L) (hg : w.grownBy w' (some g)) (hne : ∀ k, v.ownBlock = some k → k ≠ g) : OwnStrs w' base v L := by
  refine World.ownsRow.kept h hg ?_
  cases hv : v.ownBlock with
  | none => exact .inl rfl
  | some k => exact .inr (by simpa using hne k hv)

theorem ownS_drewN {w : World} {base : Nat} {v : Value} {L : List ByteArray} (h : OwnStrs w base v L) (k : Nat) : OwnStrs (w.drewN k) base v L := h

theorem ownNew (w : World) (L : List Nat) {a : Option Addr} {w0 : World} (h : RowB w0 a L) (hl : L.length ≤ 1048576) : OwnB (w.alloc (.cells (L.map u8V).toArray 5)) w.heap.size (.slice (some ⟨w.heap.size, 0, none⟩) L.length L.length) L := by
  refine ⟨h.1, ?_⟩
  have := World.ownsRow_lit (base := w.heap.size) (size := 1) (e := 5) w (L.map u8V).toArray L.length (Nat.le_refl _) (by unfold maxLen; omega) (by simp)
  simpa using this

theorem listing_small (L : List Nat) (org : Nat) : (listing L org).length ≤ 1024 := by
  unfold listing
  split
  · simp
  · have : ∀ f k, (listFrom L org f k).length ≤ f := by
      intro f
      induction f with
      | zero => intro k; simp [listFrom]
      | succ f ih =>
        intro k
        rw [listFrom]
        split
        · have := ih (k + stepAt L org k); simp; omega
        · simp
    have := this L.length 0
    omega

set_option maxRecDepth 100000 in
set_option maxHeartbeats 4000000 in
theorem walkList (HI : ImplList) (a : Option Addr) (cap org : Nat) (L : List Nat) (w : World) (hl : L.length ≤ 1048576) (hp : org < 65536) (hr : RowB w a L) :
    Calls Try.prog 6 #[.slice a L.length cap, .int .u16 org] w fun e w' => e = .returned (.bool true) ∧ Below w.heap.size w w' := by
  have hbig : ¬ (1048576 : Int) < (L.length : Int) := by omega
  obtain ⟨F, hF⟩ : ∃ F, listing L org = F := ⟨_, rfl⟩
  have hFl : F.length ≤ 1024 := by rw [← hF]; exact listing_small L org
  have HF := Lib.hid hF
  clear hF
  go_enter Try.func6, Try.ntmps6
  go_wp2_with fail
  refine (toB_any a cap L _ hl hr).mono ?_
  rintro e w1 ⟨rfl, rfl⟩
  have r1 := rowNew w L hr
  have k1 : Below w.heap.size w (w.alloc (.cells (L.map u8V).toArray 5)) := (Below.refl _ _).alloc (Nat.le_refl _) _
  go_wp2_with fail
  refine (specList_any _ L.length org L (Nat.le_refl _) hl hp _ r1).mono ?_
  rintro e w2 ⟨v2, rfl, o2, b2⟩
  rw [HF.out] at o2
  have k2 := k1.trans (b2.mono k1.size)
  have hv2 : ∀ k, v2.ownBlock = some k → k < w2.heap.size := fun k ek => ((World.ownsRow.lt o2) k ek).2
  have hr2 := hr.below k2
  clear r1 b2 k1
  go_wp2_with fail
  refine (toB_any a cap L _ hl hr2).mono ?_
  rintro e w3 ⟨rfl, rfl⟩
  have r3 := rowNew w2 L hr2
  have x3 := ownNew w2 L hr2 hl
  have bal : Below w2.heap.size w2 (w2.alloc (.cells (L.map u8V).toArray 5)) := (Below.refl _ _).alloc (Nat.le_refl _) _
  have k3 := k2.trans (bal.mono k2.size)
  have o3 := own_kept o2 bal
  clear o2 bal
  go_wp2_with fail
  refine (HI _ L.length org L _ (Nat.le_refl _) hl hp r3).mono ?_
  rintro e w4 ⟨v4, rfl, o4, b4⟩
  rw [HF.out] at o4
  have hv4 : ∀ k, v4.ownBlock = some k → w2.heap.size < k := fun k ek => by have := ((World.ownsRow.lt o4) k ek).1; simp at this; omega
  have k4 := k3.trans (b4.mono k3.size)
  have o24 := own_kept o3 b4
  have x4 := x3.below b4
  have hr4 := hr.below k4
  clear o3 b4 k3 x3 r3
  go_wp2_with fail
  refine (eqStr_true _ _ _ _ F _ (by omega) o4 o24).mono ?_
  rintro e w5 ⟨rfl, d5, rfl⟩
  have k5 := below_drewN k4 d5
  have hr5 := hr4.drewN d5
  have o25 := ownS_drewN o24 d5
  have o45 := ownS_drewN o4 d5
  have x5 := x4.drewN d5
  clear k4 hr4 o24 o4 x4
  go_wp2_with fail
  refine (toB_any a cap L _ hl hr5).mono ?_
  rintro e w6 ⟨rfl, rfl⟩
  have bal : Below (w4.drewN d5).heap.size (w4.drewN d5) ((w4.drewN d5).alloc (.cells (L.map u8V).toArray 5)) := (Below.refl _ _).alloc (Nat.le_refl _) _
  have r6 := rowNew (w4.drewN d5) L hr5
  have k6 := k5.trans (bal.mono k5.size)
  have o26 := own_kept o25 bal
  have o46 := own_kept o45 bal
  have x6 := x5.below bal
  clear k5 o25 o45 x5 bal
  go_wp2_with fail
  refine (eqB_true _ _ _ _ L _ (by omega) x6.row.2 r6).mono ?_
  rintro e w7 ⟨rfl, d7, rfl⟩
  have k7 := below_drewN k6 d7
  have o27 := ownS_drewN o26 d7
  have o47 := ownS_drewN o46 d7
  have x7 := x6.drewN d7
  clear k6 o26 o46 x6 r6
  go_wp2_with fail
  refine (markB_any w2.heap.size L.length L.length 1 w2.heap.size L _ rfl (by omega) x7).mono ?_
  rintro e w8 ⟨rfl, _, hg8⟩
  have k8 : Below w.heap.size w w8 := k7.grown hg8 k7.size (fun j ej => by cases ej; exact k2.size)
  have o28 := ownS_ne o27 hg8 (fun k ek e => by have := hv2 k ek; omega)
  have o48 := ownS_ne o47 hg8 (fun k ek e => by have := hv4 k ek; omega)
  clear k7 o27 o47 x7 hg8
  go_wp2_with fail
  refine (eqStr_true _ _ _ _ F _ (by omega) o48 o28).mono ?_
  rintro e w9 ⟨rfl, d9, rfl⟩
  have k9 := below_drewN k8 d9
  have o29 := ownS_drewN o28 d9
  have o49 := ownS_drewN o48 d9
  clear k8 o28 o48
  by_cases hpos : 0 < F.length
  · obtain ⟨g4, c4, cur4, hq, hg4a, hg4b, hg4c, hg4d, hg4e, hg4f, hg4g⟩ := own_cells o49 hpos
    subst hq
    have hgw := hv4 g4 rfl
    go_wp2_with fail
    refine (mark_any g4 F.length c4 1 _ cur4 hg4d hg4f (by omega) (by omega) hg4c (fun i hi => ⟨_, (cell_of_block hg4c).symm.trans (hg4g i hi)⟩)).mono ?_
    rintro e w10 ⟨rfl, cur10, hg10, hs10, hm10, hgr10⟩
    have k10 : Below w.heap.size w w10 := k9.grown hgr10 k9.size (fun j ej => by cases ej; have := k2.size; omega)
    have o210 := ownS_ne o29 hgr10 (fun k ek e => by have := hv2 k ek; omega)
    have HG10 := Lib.hid hg10
    have HM10 := Lib.hid hm10
    clear hg10 hm10 hg4c hg4g hgr10 o29 o49
    go_wp2_with fail
    refine (held_any g4 F.length c4 1 _ cur10 hg4d (by omega) (by omega) HG10.out HM10.out).mono ?_
    rintro e w11 ⟨rfl, b11⟩
    have k11 := k10.trans (b11.mono k10.size)
    have o211 := own_kept o210 b11
    have HG11 := Lib.hid (blkKept b11 HG10.out)
    have hr11 := hr.below k11
    clear b11 o210 k10 k9
    go_wp2_with fail
    refine (toB_any a cap L _ hl hr11).mono ?_
    rintro e w12 ⟨rfl, rfl⟩
    have bal : Below w11.heap.size w11 (w11.alloc (.cells (L.map u8V).toArray 5)) := (Below.refl _ _).alloc (Nat.le_refl _) _
    have r12 := rowNew w11 L hr11
    have k12 := k11.trans (bal.mono k11.size)
    have o212 := own_kept o211 bal
    have HG12 := Lib.hid (blkKept bal HG11.out)
    clear o211 bal
    go_wp2_with fail
    refine (HI _ L.length org L _ (Nat.le_refl _) hl hp r12).mono ?_
    rintro e w13 ⟨v13, rfl, o13, b13⟩
    rw [HF.out] at o13
    have k13 := k12.trans (b13.mono k12.size)
    have o213 := own_kept o212 b13
    have HG13 := Lib.hid (blkKept b13 HG12.out)
    go_wp2_with fail
    refine (eqStr_true _ _ _ _ F _ (by omega) o13 o213).mono ?_
    rintro e w14 ⟨rfl, d14, rfl⟩
    go_wp2_with fail
    refine (held_any g4 F.length c4 1 (w13.drewN d14) cur10 hg4d (by omega) (by omega) HG13.out HM10.out).mono ?_
    rintro e w15 ⟨rfl, b15⟩
    have k14 := below_drewN k13 d14
    go_wp2
    go_ret
    exact ⟨rfl, k14.trans (b15.mono k14.size)⟩
  · have hz : F.length = 0 := by omega
    obtain ⟨a4, c4, hq⟩ := own_len o49
    rw [hz] at hq
    subst hq
    go_wp2_with fail
    refine (mark_empty _ _ _ _).mono ?_
    rintro e w' ⟨rfl, rfl⟩
    go_wp2_with fail
    refine (held_empty _ _ _ _).mono ?_
    rintro e w' ⟨rfl, rfl⟩
    have hr9 := hr.below k9
    go_wp2_with fail
    refine (toB_any a cap L _ hl hr9).mono ?_
    rintro e w12 ⟨rfl, rfl⟩
    have bal : Below (w8.drewN d9).heap.size (w8.drewN d9) ((w8.drewN d9).alloc (.cells (L.map u8V).toArray 5)) := (Below.refl _ _).alloc (Nat.le_refl _) _
    have r12 := rowNew (w8.drewN d9) L hr9
    have k12 := k9.trans (bal.mono k9.size)
    have o212 := own_kept o29 bal
    clear bal
    go_wp2_with fail
    refine (HI _ L.length org L _ (Nat.le_refl _) hl hp r12).mono ?_
    rintro e w13 ⟨v13, rfl, o13, b13⟩
    rw [HF.out] at o13
    have k13 := k12.trans (b13.mono k12.size)
    have o213 := own_kept o212 b13
    go_wp2_with fail
    refine (eqStr_true _ _ _ _ F _ (by omega) o13 o213).mono ?_
    rintro e w14 ⟨rfl, d14, rfl⟩
    go_wp2_with fail
    refine (held_empty _ _ _ _).mono ?_
    rintro e w' ⟨rfl, rfl⟩
    go_wp2
    go_ret
    exact ⟨rfl, below_drewN k13 d14⟩

end Go.Proofs.Ytffhjoldiicgdab
