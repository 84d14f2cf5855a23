/-
  Contracts over the program's put, Fill and Poke.
-/
import Derived.Test.YtblchdmemhhcbaaGreatQXStepCycRow
import Derived.Laws.CopyOwn
namespace Go.Proofs.YtblchdmemhhcbaaGreat
set_option linter.unusedVariables false
set_option linter.unusedSimpArgs false
open Go.RowKit

theorem ramI_no {n : Int} (h : ramI n = false) : (n == 256) = false ∧ (n == 512) = false ∧ (n == 1024) = false ∧ (n == 2048) = false ∧ (n == 4096) = false := by
  unfold ramI ramN at h
  rw [Bool.and_eq_false_iff] at h
  simp only [beq_eq_false_iff_ne]
  rcases h with h | h
  · have := of_decide_eq_false h; omega
  · have := of_decide_eq_false h; omega

theorem ramI_nat (n : Nat) : ramI (n : Int) = ramN n := by
  unfold ramI
  rw [decide_eq_true (by omega : (0 : Int) ≤ (n : Int))]
  simp

set_option maxRecDepth 100000 in
theorem sizeOk_any (n : Int) (w : World) :
    Calls Tryz.prog 92 #[.int .i64 n] w fun e w' => e = .returned (.bool (ramI n)) ∧ w = w' := by
  cases h : ramI n with
  | false =>
    obtain ⟨t1, t2, t3, t4, t5⟩ := ramI_no h
    clear h
    go_enter Tryz.func92, Tryz.ntmps92
    go_wp2
    go_ret
    exact ⟨rfl, rfl⟩
  | true =>
    unfold ramI at h
    rw [Bool.and_eq_true] at h
    obtain ⟨d, rfl⟩ := Int.eq_ofNat_of_zero_le (of_decide_eq_true h.1)
    have hr : ramN d = true := by simpa using h.2
    clear h
    rcases ramN_tests hr with t1 | ⟨t1, t2⟩ | ⟨t1, t2, t3⟩ | ⟨t1, t2, t3, t4⟩ | ⟨t1, t2, t3, t4, t5⟩
    all_goals
      clear hr
      go_enter Tryz.func92, Tryz.ntmps92
      go_wp2
      go_ret
      exact ⟨rfl, rfl⟩

set_option maxRecDepth 100000 in
theorem implOk_any (a : Option Addr) (n c : Nat) (w : World) :
    Calls Tryz.prog 50 #[ramV (.slice a n c)] w fun e w' => e = .returned (.bool (ramN n)) ∧ Below w.heap.size w w' := by
  have HS := fun w => sizeOk_any (n : Int) w
  rw [ramI_nat] at HS
  go_enter Tryz.func50, Tryz.ntmps50
  go_wp2_with fail
  refine (HS _).mono ?_
  rintro e w1 ⟨rfl, rfl⟩
  go_wp2
  go_ret
  exact ⟨rfl, (Below.refl _ _).alloc (Nat.le_refl _) _⟩

set_option maxRecDepth 100000 in
theorem implNew_any (n : Int) (w : World) :
    Calls Tryz.prog 53 #[.int .i64 n] w fun e w' => ∃ v, e = .returned (ramV v) ∧ OwnB w' w.heap.size v (newL n) ∧ Below w.heap.size w w' := by
  have HS := fun w => sizeOk_any n w
  cases h : ramI n with
  | false =>
    have hL : newL n = [] := by unfold newL; rw [h]; rfl
    rw [hL]
    rw [h] at HS
    clear h hL
    go_enter Tryz.func53, Tryz.ntmps53
    go_wp2_with fail
    refine (HS _).mono ?_
    rintro e w1 ⟨rfl, rfl⟩
    go_wp2
    exact bodyPost_ret (v := ramV (.slice none 0 0)) (by simp [results, Tryz.results53, go_sem]) rfl ⟨_, rfl, ownNil _ _, (Below.refl _ _).alloc (Nat.le_refl _) _⟩
  | true =>
    rw [h] at HS
    unfold ramI at h
    rw [Bool.and_eq_true] at h
    obtain ⟨d, rfl⟩ := Int.eq_ofNat_of_zero_le (of_decide_eq_true h.1)
    have hr : ramN d = true := by simpa using h.2
    have hL : newL d = List.replicate d 0 := by unfold newL ramI; rw [if_pos (by simp [hr])]; simp
    have hmk := fun w => makeB d (by have := ramN_pos hr; omega) w
    have hb := ramN_pos hr
    rw [hL]
    clear h hL hr
    go_enter Tryz.func53, Tryz.ntmps53
    go_wp2_with fail
    refine (HS _).mono ?_
    rintro e w1 ⟨rfl, rfl⟩
    go_wp2
    refine bodyPost_ret (v := ramV (.slice (some ⟨w.heap.size + 1, 0, none⟩) d d)) (by simp [results, Tryz.results53, go_sem]) rfl ⟨_, rfl, ?_, ?_⟩
    · have := ownNewB (w.alloc (Obj.cells #[Value.slice (some ⟨w.heap.size + 1, 0, none⟩) d d] 30)) (List.replicate d 0) (by rw [List.length_replicate]; unfold maxLen; omega) (fun i hi => by simp [List.getD, List.getElem?_replicate]; split <;> simp)
      simp only [World.size_alloc, List.length_replicate, List.map_replicate, u8V] at this
      exact OwnB.base this (by omega)
    · exact ((Below.refl _ _).alloc (Nat.le_refl _) _).alloc (by simp) _

set_option maxRecDepth 100000 in
theorem place_any (a : Option Addr) (n c addr : Nat) (ha : addr < 65536) (hn : 0 < n ∧ n ≤ 4096) (w : World) :
    Calls Tryz.prog 74 #[ramV (.slice a n c), .int .u16 addr] w fun e w' => e = .returned (.int .i64 ((addr % n : Nat) : Int)) ∧ w' = w.alloc (.cells #[.slice a n c] 30) := by
  obtain ⟨k, hk⟩ : ∃ k, addr % n = k := ⟨_, rfl⟩
  have hkl : k < n := by rw [← hk]; exact Nat.mod_lt _ (by omega)
  have w2' : (addr : Int).tmod (n : Int) = (k : Int) := by rw [idx_rem _ _ (by omega), hk]
  have hn0 : ((n : Int) == 0) = false := beq_eq_false_iff_ne.2 (by omega)
  have hn1 : ¬ (n : Int) = 0 := by omega
  have hn2 : ¬ n = 0 := by omega
  have w1' : IntKind.i64.wrap (addr : Int) = (addr : Int) := IntWalk.i64_in _ (by omega)
  have w3' : IntKind.i64.wrap (k : Int) = (k : Int) := IntWalk.i64_in _ (by omega)
  rw [hk]
  clear hk
  go_enter Tryz.func74, Tryz.ntmps74
  go_wp2
  go_ret
  exact ⟨rfl, rfl⟩

set_option maxRecDepth 100000 in
theorem implPeek_any (a : Option Addr) (c addr : Nat) (L : List Nat) (ha : addr < 65536) (w : World) (hr : RowB w a L) :
    Calls Tryz.prog 38 #[ramV (.slice a L.length c), .int .u16 addr] w fun e w' => e = .returned (.int .u8 (peekL L addr)) ∧ Below w.heap.size w w' := by
  have HO := fun w => implOk_any a L.length c w
  cases h : ramN L.length with
  | false =>
    have e : peekL L addr = 0 := by unfold peekL; rw [h]; rfl
    rw [e]
    rw [h] at HO
    clear h e
    go_enter Tryz.func38, Tryz.ntmps38
    go_wp2_with fail
    refine (HO _).mono ?_
    rintro e w1 ⟨rfl, b1⟩
    have b2 := bstep ((Below.refl _ _).alloc (Nat.le_refl _) _) b1
    go_wp2
    go_ret
    exact ⟨rfl, b2⟩
  | true =>
    have hb := ramN_pos h
    obtain ⟨g, o, rfl, hg, hc⟩ := hr.2 (by omega)
    have HP := fun w => place_any (some ⟨g, o, none⟩) L.length c addr ha (by omega) w
    obtain ⟨k, hk⟩ : ∃ k, addr % L.length = k := ⟨_, rfl⟩
    have hkl : k < L.length := by rw [← hk]; exact Nat.mod_lt _ (by omega)
    have e : peekL L addr = L.getD k 0 := by unfold peekL; rw [if_pos h, hk]
    rw [e]
    have hck := hc k hkl
    obtain ⟨x, hx⟩ : ∃ x, L.getD k 0 = x := ⟨_, rfl⟩
    rw [hx] at hck ⊢
    have hx2 : x < 256 := by rw [← hx]; exact hr.1 k hkl
    rw [h] at HO
    rw [hk] at HP
    have hck2 := (((Below.refl _ _).alloc (Nat.le_refl _) (.cells #[.slice (some ⟨g, o, none⟩) L.length c] 30)).cell (p := ⟨g, o + k, none⟩) hg).trans hck
    unfold u8V at hck2
    have ik : (0 : Int) ≤ (k : Int) ∧ (k : Int) < (L.length : Int) := by omega
    clear h e hc hx hr hk hck
    go_enter Tryz.func38, Tryz.ntmps38
    go_wp2_with fail
    refine (HO _).mono ?_
    rintro e w1 ⟨rfl, b1⟩
    have hs1 : w.heap.size < w1.heap.size := Nat.lt_of_lt_of_le (by simp) b1.size
    have hgs : g < w1.heap.size := by omega
    have hcb : w1.cell? ⟨w.heap.size, 0, none⟩ = some (.slice (some ⟨g, o, none⟩) L.length c) := (b1.cell (p := ⟨w.heap.size, 0, none⟩) (by simp)).trans (by simp)
    have hcx := (b1.cell (p := ⟨g, o + k, none⟩) (by simp; omega)).trans hck2
    have b2 := bstep ((Below.refl _ _).alloc (Nat.le_refl _) _) b1
    have b3 := b2.alloc (by omega) (.cells #[.slice (some ⟨g, o, none⟩) L.length c] 30)
    clear b1 hck2
    have S0 : w1.drew.cell? ⟨w.heap.size, 0, none⟩ = some (.slice (some ⟨g, o, none⟩) L.length c) ∧ w1.drew.cell? ⟨g, o + k, none⟩ = some (.int .u8 (x : Int)) := ⟨hcb, hcx⟩
    have S1 : (w1.alloc (.cells #[.slice (some ⟨g, o, none⟩) L.length c] 30)).drew.cell? ⟨w.heap.size, 0, none⟩ = some (.slice (some ⟨g, o, none⟩) L.length c) ∧ (w1.alloc (.cells #[.slice (some ⟨g, o, none⟩) L.length c] 30)).drew.cell? ⟨g, o + k, none⟩ = some (.int .u8 (x : Int)) :=
      ⟨(World.cell?_alloc_past _ _ _ (by show w.heap.size < w1.heap.size; omega)).trans hcb, (World.cell?_alloc_past _ _ _ (by show g < w1.heap.size; omega)).trans hcx⟩
    go_wp2_with fail
    go_region_held3 (fun w' => w'.cell? ⟨w.heap.size, 0, none⟩ = some (.slice (some ⟨g, o, none⟩) L.length c) ∧ w'.cell? ⟨g, o + k, none⟩ = some (.int .u8 (x : Int)))
      (((try dsimp only); (first | (with_reducible exact S0) | (with_reducible exact S1))))
      (first | (go_at_call 74; refine (HP _).mono ?_; rintro e w2 ⟨rfl, rfl⟩))
    go_wp2
    go_ret
    exact ⟨rfl, b3.drew⟩

end Go.Proofs.YtblchdmemhhcbaaGreat

namespace Go.Proofs.YtblchdmemhhcbaaGreat
set_option linter.unusedVariables false
set_option linter.unusedSimpArgs false
open Go.RowKit

/-- The bytes laid over a row from a place on, put one by one. -/
theorem fillAt_splice (n addr : Nat) (hd : n ∣ 65536) : ∀ (R : List Nat) (k p j : Nat) (M : List Nat), M.length = n → p + k ≤ n → k ≤ R.length → (0 < k → p = (addr + j) % 65536 % n) →
    fillAt n addr R j M = fillAt n addr (R.drop k) (j + k) (splice M p (R.take k))
  | R, 0, p, j, M, _, _, _, _ => by simp [splice]
  | [], k + 1, p, j, M, _, _, hk, _ => by simp at hk
  | x :: r, k + 1, p, j, M, hM, hp, hk, hpp => by
    have e := hpp (by omega)
    rw [fillAt, ← e]
    have hstep : 0 < k → p + 1 = (addr + (j + 1)) % 65536 % n := fun h0 => by
      rw [Nat.mod_mod_of_dvd _ hd] at e ⊢
      have h1 : (addr + (j + 1)) % n = ((addr + j) % n + 1) % n := by rw [show addr + (j + 1) = (addr + j) + 1 by omega, Nat.add_mod]; simp
      rw [h1, ← e, Nat.mod_eq_of_lt (by omega)]
    rw [fillAt_splice n addr hd r k (p + 1) (j + 1) (M.set p x) (by rw [List.length_set]; exact hM) (by omega) (by simpa using hk) hstep]
    have e2 : splice (M.set p x) (p + 1) (r.take k) = splice M p ((x :: r).take (k + 1)) := by
      have hl : (r.take k).length = k := by rw [List.length_take]; simp at hk; omega
      simp only [splice, List.take_succ_cons, List.length_cons, hl]
      rw [List.take_set, List.drop_set_of_lt (by omega), show p + 1 + k = p + (k + 1) by omega]
      have : (M.take (p + 1)).set p x = M.take p ++ [x] := by
        rw [List.take_succ_eq_append_getElem (by omega), List.set_append_right _ _ (by rw [List.length_take]; omega)]
        simp [List.length_take, Nat.min_eq_left (by omega : p ≤ M.length)]
      rw [this]; simp
    rw [e2]
    simp only [List.drop_succ_cons]
    rw [show j + 1 + k = j + (k + 1) by omega]

theorem fillAt_whole (n : Nat) (hd : n ∣ 65536) (hn : 0 < n) (L M : List Nat) (hM : M.length = n) (hL : L.length = n) : fillAt n 0 L 0 M = L := by
  rw [fillAt_splice n 0 hd L n 0 0 M hM (by omega) (by omega) (fun _ => by simp)]
  rw [List.drop_of_length_le (by omega), fillAt, List.take_of_length_le (by omega)]
  simp [splice, hL, ← hM]

theorem ramN_dvd {n : Nat} (h : ramN n = true) : n ∣ 65536 := by
  rcases ramN_cases h with rfl | rfl | rfl | rfl | rfl <;> decide

theorem splice_bytes {M R : List Nat} {p : Nat} (hM : ∀ i, i < M.length → M.getD i 0 < 256) (hR : ∀ i, i < R.length → R.getD i 0 < 256) : ∀ i, i < (splice M p R).length → (splice M p R).getD i 0 < 256 := by
  have key : ∀ L : List Nat, (∀ i, i < L.length → L.getD i 0 < 256) ↔ ∀ x ∈ L, x < 256 := fun L => by
    constructor
    · intro h x hx
      obtain ⟨i, hi, rfl⟩ := List.mem_iff_getElem.1 hx
      have := h i hi
      rwa [List.getD, List.getElem?_eq_getElem hi] at this
    · intro h i hi
      rw [List.getD, List.getElem?_eq_getElem hi]
      exact h _ (List.getElem_mem _)
  rw [key] at hM hR ⊢
  intro x hx
  simp only [splice, List.mem_append] at hx
  rcases hx with hx | hx | hx
  · exact hM x (List.mem_of_mem_take hx)
  · exact hR x hx
  · exact hM x (List.mem_of_mem_drop hx)

theorem splice_map {α β : Type} (f : α → β) (L : List α) (p : Nat) (C : List α) : (splice L p C).map f = splice (L.map f) p (C.map f) := by
  simp [splice]

theorem splice_take {α : Type} (L : List α) (p n : Nat) (C : List α) (h : p + C.length ≤ n) (hn : n ≤ L.length) : (splice L p C).take n = splice (L.take n) p C := by
  simp only [splice]
  rw [List.take_append, List.take_append, List.length_take, Nat.min_eq_left (by omega : p ≤ L.length), List.take_of_length_le (by rw [List.length_take]; omega : (L.take p).length ≤ n), List.take_of_length_le (by omega : C.length ≤ n - p), List.take_take, Nat.min_eq_left (by omega : p ≤ n), List.drop_take, Nat.sub_sub]

/-- copy(dst, src): dst a place in a row of the call's own, src any row elsewhere. -/
theorem wpList_copyB {w : World} {ops : Array Oper} {rest : List Oper} {o : Oper} {a : Act} {Q : Exit → Act → World → Prop} (hgd : o.guard = none) (d s : Operand)
    (ho : o.op = .call { callee := .builtin .copy, args := #[d, s], argTypes := #[22, 22] })
    (base g p n c dCap k sCap : Nat) (b : Option Addr) (M R : List Nat) (hd : a.eval d = .slice (some ⟨g, p, none⟩) (n - p) dCap) (hs : a.eval s = .slice b R.length sCap)
    (hk : k = Nat.min R.length (n - p)) (hk0 : 0 < k) (hM : M.length = n) (hp : p ≤ n) (hO : OwnB w base (.slice (some ⟨g, 0, none⟩) n c) M) (hR : RowB w b R)
    (h : ∀ w', Hid (OwnB w' base (.slice (some ⟨g, 0, none⟩) n c) (splice M p (R.take k))) → w.grownBy w' (some g) → wpList Tryz.prog ops Q rest (a.put o.dst (goInt k)) w') :
    wpList Tryz.prog ops Q (o :: rest) a w := by
  have hkl : k ≤ R.length := by rw [hk]; exact Nat.min_le_left _ _
  have hkp : k ≤ n - p := by rw [hk]; exact Nat.min_le_right _ _
  have htl : (R.take k).length = k := by rw [List.length_take]; omega
  obtain ⟨gx, ox, rfl, hgx, hcx⟩ := hR.2 (by omega)
  rcases hO.2.2 with ⟨_, h0⟩ | ⟨g', cap, cur, hv, hb, hg, h1, h2, h3, h4⟩
  · omega
  simp only [Value.slice.injEq, Option.some.injEq, Addr.mk.injEq, and_true] at hv
  obtain ⟨rfl, _, rfl⟩ := hv
  refine wpList_copy_own hgd d s 22 22 ho 5 Tryz.underlying22 (by kernel_rfl) g p (n - p) dCap ⟨gx, ox, none⟩ R.length sCap hd hs cur 5 hg ((R.take k).map u8V) (by rw [List.length_map, htl, hk]) ?_ ?_ ?_ ?_
  · intro j v hj
    have := rowCells hR j v
    apply this
    rw [List.map_take] at hj
    rw [List.getElem?_take] at hj
    split at hj
    · exact hj
    · cases hj
  · rw [List.length_map, htl]; omega
  · intro v hv
    rw [List.map_take] at hv
    exact u8V_one R v (List.mem_of_mem_take hv)
  · have hml : ((R.take k).map u8V).length = k := by rw [List.length_map, htl]
    rw [hml]
    have hsl : (splice M p (R.take k)).length = n := by rw [length_splice _ _ _ (by rw [htl]; omega)]; exact hM
    refine h _ (Lib.hid ⟨splice_bytes hO.1 (fun i hi => ?_), ?_⟩) ?_
    · rw [htl] at hi
      have := hR.1 i (by omega)
      rw [List.getD, List.getElem?_take, if_pos hi]
      exact this
    · refine ⟨by simp, .inr ⟨g, c, _, by rw [hsl], hb, setRow_heap w g cur _ 5 (0, 0) hg, by rw [hsl]; omega, h2, ?_, ?_⟩⟩
      · simp only [List.size_toArray, List.length_append, List.length_take, List.length_drop, Array.length_toList, List.length_map, Nat.mul_one]
        omega
      · rw [hsl, Nat.mul_one]
        have h4' : cur.toList.take n = M.map u8V := by rw [← h4, hM, Nat.mul_one]
        rw [splice_map, ← h4']
        have e : cur.toList.take p ++ ((R.take k).map u8V ++ cur.toList.drop (p + k)) = splice cur.toList p ((R.take k).map u8V) := by rw [splice, hml]
        rw [e]
        exact splice_take _ _ _ _ (by rw [List.length_map, htl]; omega) (by rw [Array.length_toList]; omega)
    · exact ⟨rfl, rfl, rfl, by simp [World.setRow], fun k _ hne => setRow_other w g k _ (by intro e; exact hne (by rw [e]))⟩

end Go.Proofs.YtblchdmemhhcbaaGreat
