/-
  The law of what is put (FnRam), walked over any program whose functions keep their contracts.
-/
import Derived.Test.YtppkcljpfjdlnaaRamLaws
import Derived.Test.YtppkcljpfjdlnaaDrawRam
import Derived.Test.YtppkcljpfjdlnaaCodesLaw
namespace Go.Proofs.Ytppkcljpfjdlnaa
set_option linter.unusedVariables false
set_option linter.unusedSimpArgs false
open Go.RowKit

theorem peek_poke {L : List Nat} {addr b c : Nat} (h : ramN L.length = true) (hc : c % L.length = addr % L.length) : peekL (L.set (addr % L.length) b) c = b := by
  have hp := ramN_pos h
  have hlt : addr % L.length < L.length := Nat.mod_lt _ (by omega)
  unfold peekL
  rw [List.length_set, if_pos h, hc]
  simp [List.getD, hlt]

theorem round_addr {n addr : Nat} (h : ramN n = true) (ha : addr < 65536) : (addr + n) % 65536 % n = addr % n := by
  rcases ramN_cases h with rfl | rfl | rfl | rfl | rfl <;> omega

set_option maxRecDepth 100000 in
set_option maxHeartbeats 2000000 in
theorem walkFnRam (HK : ImplPoke) (HP : ImplPeek) (a : Option Addr) (len cap : Nat) (z : List Int) (w : World) (hc : CodeRow w.heap.size w a len z) (hl : len ≤ 1048576) :
    Calls Try.prog 3 #[.slice a len cap] w fun e w' => e = .returned (.bool true) ∧ Below w.heap.size w w' := by
  have hbig : decide ((1048576 : Int) < len) = false := by simp; omega
  go_enter Try.func3, Try.ntmps3
  go_wp2_with fail
  refine (bigCode_any _ _ _ _).mono ?_
  rintro e w' ⟨rfl, rfl⟩
  rw [hbig]
  clear hbig
  go_wp2_with fail
  refine (drawPoke_any w.heap.size a len cap z w hc (Nat.le_refl _)).mono ?_
  rintro e w1 ⟨v1, L, addr, b, hL, ha, hb, rfl, o1, d1⟩
  have s1 := SegB.of o1
  obtain ⟨a1, c1, rfl, h1c⟩ := s1.len
  have k2 : Below w1.heap.size w1 (w1.alloc (.cells #[.slice a1 L.length c1] 25)) := (Below.refl _ _).alloc (Nat.le_refl _) _
  have p2 : BoxN (w1.alloc (.cells #[.slice a1 L.length c1] 25)) w1.heap.size 25 #[.slice a1 L.length c1] := BoxN.new _ _ _
  have s2 := s1.below k2
  have b2 := bstep d1 k2
  obtain ⟨M, hM⟩ : ∃ M, pokeL L addr b = M := ⟨_, rfl⟩
  have CK := fun W h => HK a1 c1 addr b L W ha hb (by omega) h1c h
  rw [hM] at CK
  have HM := Lib.hid hM
  clear o1 d1 s1 k2 hM hc
  go_wp2_with fail
  refine (CK _ s2.row).mono ?_
  rintro e w3 ⟨v3, rfl, o3, d3⟩
  have s3 := SegB.of o3
  obtain ⟨a3, c3, rfl, h3c⟩ := s3.len
  obtain ⟨m, hm⟩ : ∃ m, M.length = m := ⟨_, rfl⟩
  rw [hm] at s3 h3c ⊢
  have HMM := Lib.hid hm
  clear hm
  have k4 : Below w3.heap.size w3 (w3.alloc (.cells #[.slice a3 m c3] 25)) := (Below.refl _ _).alloc (Nat.le_refl _) _
  have q4 : BoxN (w3.alloc (.cells #[.slice a3 m c3] 25)) w3.heap.size 25 #[.slice a3 m c3] := BoxN.new _ _ _
  have p4 := (p2.below d3).below k4
  have s4 := (s2.below d3).below k4
  have t4 := s3.below k4
  have b4 := bstep (bstep b2 d3) k4
  clear CK p2 s2 b2 o3 d3 s3 k4
  have c4 := p4.cell 0 (.slice a1 L.length c1) rfl
  have CO := fun W => specOk_any a1 L.length c1 W
  cases hr : ramN L.length with
  | false =>
    rw [hr] at CO
    obtain rfl : m = 0 := by rw [← HMM.out, ← HM.out]; unfold pokeL; rw [hr]; rfl
    go_wp2_with fail
    refine (CO _).mono ?_
    rintro e w5 ⟨rfl, d5⟩
    have b5 := bstep b4 d5
    have c5 := (q4.below d5).cell 0 (.slice a3 0 c3) rfl
    clear d5
    go_wp2
    go_ret
    exact ⟨rfl, b5⟩
  | true =>
    rw [hr] at CO
    have hn := ramN_pos hr
    obtain ⟨k, hk⟩ : ∃ k, addr % L.length = k := ⟨_, rfl⟩
    have hkl : k < L.length := by rw [← hk]; exact Nat.mod_lt _ (by omega)
    have hMe : M = L.set k b := by rw [← HM.out]; unfold pokeL; rw [if_pos hr, hk]
    have hML : M.length = L.length := by rw [hMe, List.length_set]
    obtain rfl : m = L.length := by rw [← HMM.out, hML]
    have e1 : peekL M addr = b := by rw [hMe, ← hk]; exact peek_poke hr rfl
    have e2 : peekL M ((addr + L.length) % 65536) = b := by rw [hMe, ← hk]; exact peek_poke hr (round_addr hr ha)
    have C1 := fun W h => HP a3 c3 addr M W ha (by omega) (by omega) h
    have C2 := fun W h => HP a3 c3 ((addr + L.length) % 65536) M W (by omega) (by omega) (by omega) h
    rw [e1] at C1
    rw [e2] at C2
    obtain ⟨Q, hQ⟩ : ∃ Q, (addr + L.length) % 65536 = Q := ⟨_, rfl⟩
    rw [hQ] at C2
    have y1 : IntKind.u16.wrap (L.length : Int) = (L.length : Int) := by rw [IntKind.wrap_u16]; omega
    have y2 : IntKind.u16.wrap ((addr : Int) + (L.length : Int)) = (Q : Int) := by rw [IntKind.wrap_u16]; omega
    have Y2 := Lib.hid y2
    have HE := Lib.hid hMe
    have hGD : ∀ i, i < L.length → i ≠ k → M.getD i 0 = L.getD i 0 := fun i hi hne => by rw [hMe]; simp only [List.getD, List.getElem?_set_ne (Ne.symm hne)]
    have HG := Lib.hid hGD
    have HKK := Lib.hid hk
    rw [hML] at C1 C2
    clear hMe e1 e2 hQ hk hGD y2 HM hML
    go_wp2_with fail
    refine (CO _).mono ?_
    rintro e w5 ⟨rfl, d5⟩
    have b5 := bstep b4 d5
    have p5 := p4.below d5
    have q5 := q4.below d5
    have s5 := s4.below d5
    have t5 := t4.below d5
    clear d5 b4 p4 q4 s4 t4 c4 CO
    have c5 := p5.cell 0 (.slice a1 L.length c1) rfl
    have c6 := q5.cell 0 (.slice a3 L.length c3) rfl
    go_wp2_with fail
    refine (C1 _ t5.row).mono ?_
    rintro e w6 ⟨rfl, d6⟩
    have b6 := bstep b5 d6
    have p6 := p5.below d6
    have q6 := q5.below d6
    have s6 := s5.below d6
    have t6 := t5.below d6
    clear d6 b5 p5 q5 s5 t5 c5 c6 C1
    have c5 := p6.cell 0 (.slice a1 L.length c1) rfl
    have c6 := q6.cell 0 (.slice a3 L.length c3) rfl
    go_wp2_with fail
    rw [Y2.out]
    refine (C2 _ t6.row).mono ?_
    rintro e w7 ⟨rfl, d7⟩
    have b7 := bstep b6 d7
    have p7 := p6.below d7
    have q7 := q6.below d7
    have s7 := s6.below d7
    have t7 := t6.below d7
    clear d7 b6 p6 q6 s6 t6 c5 c6 C2
    obtain ⟨g1, o1, rfl, _, hr1⟩ := s7.row.2 (by omega)
    obtain ⟨g3, o3, rfl, _, hr3⟩ := t7.row.2 (by rw [HMM.out]; omega)
    have HR1 := Lib.hid hr1
    have HR3 := Lib.hid hr3
    have HP7 := Lib.hid (And.intro p7 q7)
    have y3 : IntKind.i64.wrap (addr : Int) = (addr : Int) := IntWalk.i64_in _ (by omega)
    have y4 : (addr : Int).tmod (L.length : Int) = (k : Int) := by rw [idx_rem _ _ (by omega), HKK.out]
    have y5 : IntKind.i64.wrap (k : Int) = (k : Int) := IntWalk.i64_in _ (by omega)
    have y6 : ¬ (L.length : Int) = 0 := by omega
    have y7 : ((L.length : Int) == 0) = false := beq_eq_false_iff_ne.2 (by omega)
    have y8 : ¬ L.length = 0 := by omega
    have HY := Lib.hid (And.intro y3 (And.intro y4 y5))
    clear hr1 hr3 p7 q7 s7 t7 y3 y4 y5 y6 y7 y8
    go_wp2
    go_loopw [8] (fun i wr => ∃ (j t : Nat), j ≤ L.length ∧ i = .int .i64 j ∧ wr = w7.drewN t) (fun i _ => L.length - (intOf i).toNat)
    case atStart => exact ⟨0, 0, Nat.zero_le _, rfl, rfl⟩
    case round =>
      obtain ⟨j, t, hj, rfl, rfl⟩ := hrel
      have b8 := below_drewN b7 t
      by_cases hp : j < L.length
      · have c5 : w7.cell? ⟨w1.heap.size, 0, none⟩ = some (.slice (some ⟨g1, o1, none⟩) L.length c1) := HP7.out.1.cell 0 _ rfl
        have c6 : w7.cell? ⟨w3.heap.size, 0, none⟩ = some (.slice (some ⟨g3, o3, none⟩) L.length c3) := HP7.out.2.cell 0 _ rfl
        have x1 : w7.cell? ⟨g1, o1 + j, none⟩ = some (.int .u8 (L.getD j 0 : Int)) := HR1.out j hp
        have x3 : w7.cell? ⟨g3, o3 + j, none⟩ = some (.int .u8 (M.getD j 0 : Int)) := HR3.out j (by rw [HMM.out]; exact hp)
        obtain ⟨y3, y4, y5⟩ := HY.out
        have y6 : ¬ (L.length : Int) = 0 := by omega
        have y7 : ((L.length : Int) == 0) = false := beq_eq_false_iff_ne.2 (by omega)
        have y8 : ¬ L.length = 0 := by omega
        have ij : (0 : Int) ≤ (j : Int) ∧ (j : Int) < (L.length : Int) := by omega
        obtain ⟨x, hx⟩ : ∃ x, L.getD j 0 = x := ⟨_, rfl⟩
        rw [hx] at x1
        by_cases hjk : j = k
        · have z1 : ((j : Int) != (k : Int)) = false := by simp; omega
          clear x1 x3 hx
          go_wp2_with fail
          go_quiet (fail)
          go_wp2
          go_roundw
          case rel => exact ⟨j + 1, _, by omega, by go_num, rfl⟩
          case measure => simp [intOf]; omega
        · have z1 : ((j : Int) != (k : Int)) = true := by simp; omega
          rw [HG.out j hp hjk, hx] at x3
          clear hx
          go_wp2_with fail
          go_quiet (fail)
          go_wp2
          go_roundw
          case rel => exact ⟨j + 1, _, by omega, by go_num, rfl⟩
          case measure => simp [intOf]; omega
      · obtain rfl : j = L.length := by omega
        go_wp2
        go_ret
        exact ⟨rfl, b8⟩

end Go.Proofs.Ytppkcljpfjdlnaa
