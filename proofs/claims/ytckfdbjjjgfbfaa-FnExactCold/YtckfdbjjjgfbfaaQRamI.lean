/-
  Contracts over the program's ramSizeOk, RamOk, NewRam, place and Peek.
-/
import Derived.Test.YtckfdbjjjgfbfaaQRamLaws
namespace Go.Proofs.Ytckfdbjjjgfbfaa
set_option linter.unusedVariables false
set_option linter.unusedSimpArgs false
open Go.RowKit

theorem ramI_no {n : Int} (h : ramI n = false) : (n == 256) = false ∧ (n == 512) = false ∧ (n == 1024) = false ∧ (n == 2048) = false ∧ (n == 4096) = false := by
  unfold ramI ramN at h
  rw [Bool.and_eq_false_iff] at h
  simp only [beq_eq_false_iff_ne]
  rcases h with h | h
  · have := of_decide_eq_false h; omega
  · have := of_decide_eq_false h; omega

theorem ramI_nat (n : Nat) : ramI (n : Int) = ramN n := by
  unfold ramI
  rw [decide_eq_true (by omega : (0 : Int) ≤ (n : Int))]
  simp

set_option maxRecDepth 100000 in
theorem sizeOk_any (n : Int) (w : World) :
    Calls Try.prog 56 #[.int .i64 n] w fun e w' => e = .returned (.bool (ramI n)) ∧ w = w' := by
  cases h : ramI n with
  | false =>
    obtain ⟨t1, t2, t3, t4, t5⟩ := ramI_no h
    clear h
    go_enter Try.func56, Try.ntmps56
    go_wp2
    go_ret
    exact ⟨rfl, rfl⟩
  | true =>
    unfold ramI at h
    rw [Bool.and_eq_true] at h
    obtain ⟨d, rfl⟩ := Int.eq_ofNat_of_zero_le (of_decide_eq_true h.1)
    have hr : ramN d = true := by simpa using h.2
    clear h
    rcases ramN_tests hr with t1 | ⟨t1, t2⟩ | ⟨t1, t2, t3⟩ | ⟨t1, t2, t3, t4⟩ | ⟨t1, t2, t3, t4, t5⟩
    all_goals
      clear hr
      go_enter Try.func56, Try.ntmps56
      go_wp2
      go_ret
      exact ⟨rfl, rfl⟩

set_option maxRecDepth 100000 in
theorem implOk_any (a : Option Addr) (n c : Nat) (w : World) :
    Calls Try.prog 29 #[ramV (.slice a n c)] w fun e w' => e = .returned (.bool (ramN n)) ∧ Below w.heap.size w w' := by
  have HS := fun w => sizeOk_any (n : Int) w
  rw [ramI_nat] at HS
  go_enter Try.func29, Try.ntmps29
  go_wp2_with fail
  refine (HS _).mono ?_
  rintro e w1 ⟨rfl, rfl⟩
  go_wp2
  go_ret
  exact ⟨rfl, (Below.refl _ _).alloc (Nat.le_refl _) _⟩

set_option maxRecDepth 100000 in
theorem place_any (a : Option Addr) (n c addr : Nat) (ha : addr < 65536) (hn : 0 < n ∧ n ≤ 4096) (w : World) :
    Calls Try.prog 57 #[ramV (.slice a n c), .int .u16 addr] w fun e w' => e = .returned (.int .i64 ((addr % n : Nat) : Int)) ∧ w' = w.alloc (.cells #[.slice a n c] 30) := by
  obtain ⟨k, hk⟩ : ∃ k, addr % n = k := ⟨_, rfl⟩
  have hkl : k < n := by rw [← hk]; exact Nat.mod_lt _ (by omega)
  have w2' : (addr : Int).tmod (n : Int) = (k : Int) := by rw [idx_rem _ _ (by omega), hk]
  have hn0 : ((n : Int) == 0) = false := beq_eq_false_iff_ne.2 (by omega)
  have hn1 : ¬ (n : Int) = 0 := by omega
  have hn2 : ¬ n = 0 := by omega
  have w1' : IntKind.i64.wrap (addr : Int) = (addr : Int) := IntWalk.i64_in _ (by omega)
  have w3' : IntKind.i64.wrap (k : Int) = (k : Int) := IntWalk.i64_in _ (by omega)
  rw [hk]
  clear hk
  go_enter Try.func57, Try.ntmps57
  go_wp2
  go_ret
  exact ⟨rfl, rfl⟩

set_option maxRecDepth 100000 in
theorem implPeek_any (a : Option Addr) (c addr : Nat) (L : List Nat) (ha : addr < 65536) (w : World) (hr : RowB w a L) :
    Calls Try.prog 30 #[ramV (.slice a L.length c), .int .u16 addr] w fun e w' => e = .returned (.int .u8 (peekL L addr)) ∧ Below w.heap.size w w' := by
  have HO := fun w => implOk_any a L.length c w
  cases h : ramN L.length with
  | false =>
    have e : peekL L addr = 0 := by unfold peekL; rw [h]; rfl
    rw [e]
    rw [h] at HO
    clear h e
    go_enter Try.func30, Try.ntmps30
    go_wp2_with fail
    refine (HO _).mono ?_
    rintro e w1 ⟨rfl, b1⟩
    have b2 := bstep ((Below.refl _ _).alloc (Nat.le_refl _) _) b1
    go_wp2
    go_ret
    exact ⟨rfl, b2⟩
  | true =>
    have hb := ramN_pos h
    obtain ⟨g, o, rfl, hg, hc⟩ := hr.2 (by omega)
    have HP := fun w => place_any (some ⟨g, o, none⟩) L.length c addr ha (by omega) w
    obtain ⟨k, hk⟩ : ∃ k, addr % L.length = k := ⟨_, rfl⟩
    have hkl : k < L.length := by rw [← hk]; exact Nat.mod_lt _ (by omega)
    have e : peekL L addr = L.getD k 0 := by unfold peekL; rw [if_pos h, hk]
    rw [e]
    have hck := hc k hkl
    obtain ⟨x, hx⟩ : ∃ x, L.getD k 0 = x := ⟨_, rfl⟩
    rw [hx] at hck ⊢
    have hx2 : x < 256 := by rw [← hx]; exact hr.1 k hkl
    rw [h] at HO
    rw [hk] at HP
    have hck2 := (((Below.refl _ _).alloc (Nat.le_refl _) (.cells #[.slice (some ⟨g, o, none⟩) L.length c] 30)).cell (p := ⟨g, o + k, none⟩) hg).trans hck
    unfold u8V at hck2
    have ik : (0 : Int) ≤ (k : Int) ∧ (k : Int) < (L.length : Int) := by omega
    clear h e hc hx hr hk hck
    go_enter Try.func30, Try.ntmps30
    go_wp2_with fail
    refine (HO _).mono ?_
    rintro e w1 ⟨rfl, b1⟩
    have hs1 : w.heap.size < w1.heap.size := Nat.lt_of_lt_of_le (by simp) b1.size
    have hgs : g < w1.heap.size := by omega
    have hcb : w1.cell? ⟨w.heap.size, 0, none⟩ = some (.slice (some ⟨g, o, none⟩) L.length c) := (b1.cell (p := ⟨w.heap.size, 0, none⟩) (by simp)).trans (by simp)
    have hcx := (b1.cell (p := ⟨g, o + k, none⟩) (by simp; omega)).trans hck2
    have b2 := bstep ((Below.refl _ _).alloc (Nat.le_refl _) _) b1
    have b3 := b2.alloc (by omega) (.cells #[.slice (some ⟨g, o, none⟩) L.length c] 30)
    clear b1 hck2
    have S0 : w1.drew.cell? ⟨w.heap.size, 0, none⟩ = some (.slice (some ⟨g, o, none⟩) L.length c) ∧ w1.drew.cell? ⟨g, o + k, none⟩ = some (.int .u8 (x : Int)) := ⟨hcb, hcx⟩
    have S1 : (w1.alloc (.cells #[.slice (some ⟨g, o, none⟩) L.length c] 30)).drew.cell? ⟨w.heap.size, 0, none⟩ = some (.slice (some ⟨g, o, none⟩) L.length c) ∧ (w1.alloc (.cells #[.slice (some ⟨g, o, none⟩) L.length c] 30)).drew.cell? ⟨g, o + k, none⟩ = some (.int .u8 (x : Int)) :=
      ⟨(World.cell?_alloc_past _ _ _ (by show w.heap.size < w1.heap.size; omega)).trans hcb, (World.cell?_alloc_past _ _ _ (by show g < w1.heap.size; omega)).trans hcx⟩
    go_wp2_with fail
    go_region_held3 (fun w' => w'.cell? ⟨w.heap.size, 0, none⟩ = some (.slice (some ⟨g, o, none⟩) L.length c) ∧ w'.cell? ⟨g, o + k, none⟩ = some (.int .u8 (x : Int)))
      (((try dsimp only); (first | (with_reducible exact S0) | (with_reducible exact S1))))
      (first | (go_at_call 57; refine (HP _).mono ?_; rintro e w2 ⟨rfl, rfl⟩))
    go_wp2
    go_ret
    exact ⟨rfl, b3.drew⟩

end Go.Proofs.Ytckfdbjjjgfbfaa
