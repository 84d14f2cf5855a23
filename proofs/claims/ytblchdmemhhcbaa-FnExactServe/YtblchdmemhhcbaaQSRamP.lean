/-
  Contracts over the program's put, Fill and Poke.
-/
import Derived.Test.YtblchdmemhhcbaaQSRamI
import Derived.Laws.CopyOwn
namespace Go.Proofs.Ytblchdmemhhcbaa
set_option linter.unusedVariables false
set_option linter.unusedSimpArgs false
open Go.RowKit

/-- The bytes laid over a row from a place on, put one by one. -/
theorem fillAt_splice (n addr : Nat) (hd : n ∣ 65536) : ∀ (R : List Nat) (k p j : Nat) (M : List Nat), M.length = n → p + k ≤ n → k ≤ R.length → (0 < k → p = (addr + j) % 65536 % n) →
    fillAt n addr R j M = fillAt n addr (R.drop k) (j + k) (splice M p (R.take k))
  | R, 0, p, j, M, _, _, _, _ => by simp [splice]
  | [], k + 1, p, j, M, _, _, hk, _ => by simp at hk
  | x :: r, k + 1, p, j, M, hM, hp, hk, hpp => by
    have e := hpp (by omega)
    rw [fillAt, ← e]
    have hstep : 0 < k → p + 1 = (addr + (j + 1)) % 65536 % n := fun h0 => by
      rw [Nat.mod_mod_of_dvd _ hd] at e ⊢
      have h1 : (addr + (j + 1)) % n = ((addr + j) % n + 1) % n := by rw [show addr + (j + 1) = (addr + j) + 1 by omega, Nat.add_mod]; simp
      rw [h1, ← e, Nat.mod_eq_of_lt (by omega)]
    rw [fillAt_splice n addr hd r k (p + 1) (j + 1) (M.set p x) (by rw [List.length_set]; exact hM) (by omega) (by simpa using hk) hstep]
    have e2 : splice (M.set p x) (p + 1) (r.take k) = splice M p ((x :: r).take (k + 1)) := by
      have hl : (r.take k).length = k := by rw [List.length_take]; simp at hk; omega
      simp only [splice, List.take_succ_cons, List.length_cons, hl]
      rw [List.take_set, List.drop_set_of_lt (by omega), show p + 1 + k = p + (k + 1) by omega]
      have : (M.take (p + 1)).set p x = M.take p ++ [x] := by
        rw [List.take_succ_eq_append_getElem (by omega), List.set_append_right _ _ (by rw [List.length_take]; omega)]
        simp [List.length_take, Nat.min_eq_left (by omega : p ≤ M.length)]
      rw [this]; simp
    rw [e2]
    simp only [List.drop_succ_cons]
    rw [show j + 1 + k = j + (k + 1) by omega]

theorem fillAt_whole (n : Nat) (hd : n ∣ 65536) (hn : 0 < n) (L M : List Nat) (hM : M.length = n) (hL : L.length = n) : fillAt n 0 L 0 M = L := by
  rw [fillAt_splice n 0 hd L n 0 0 M hM (by omega) (by omega) (fun _ => by simp)]
  rw [List.drop_of_length_le (by omega), fillAt, List.take_of_length_le (by omega)]
  simp [splice, hL, ← hM]

theorem ramN_dvd {n : Nat} (h : ramN n = true) : n ∣ 65536 := by
  rcases ramN_cases h with rfl | rfl | rfl | rfl | rfl <;> decide

theorem splice_bytes {M R : List Nat} {p : Nat} (hM : ∀ i, i < M.length → M.getD i 0 < 256) (hR : ∀ i, i < R.length → R.getD i 0 < 256) : ∀ i, i < (splice M p R).length → (splice M p R).getD i 0 < 256 := by
  have key : ∀ L : List Nat, (∀ i, i < L.length → L.getD i 0 < 256) ↔ ∀ x ∈ L, x < 256 := fun L => by
    constructor
    · intro h x hx
      obtain ⟨i, hi, rfl⟩ := List.mem_iff_getElem.1 hx
      have := h i hi
      rwa [List.getD, List.getElem?_eq_getElem hi] at this
    · intro h i hi
      rw [List.getD, List.getElem?_eq_getElem hi]
      exact h _ (List.getElem_mem _)
  rw [key] at hM hR ⊢
  intro x hx
  simp only [splice, List.mem_append] at hx
  rcases hx with hx | hx | hx
  · exact hM x (List.mem_of_mem_take hx)
  · exact hR x hx
  · exact hM x (List.mem_of_mem_drop hx)

theorem splice_map {α β : Type} (f : α → β) (L : List α) (p : Nat) (C : List α) : (splice L p C).map f = splice (L.map f) p (C.map f) := by
  simp [splice]

theorem splice_take {α : Type} (L : List α) (p n : Nat) (C : List α) (h : p + C.length ≤ n) (hn : n ≤ L.length) : (splice L p C).take n = splice (L.take n) p C := by
  simp only [splice]
  rw [List.take_append, List.take_append, List.length_take, Nat.min_eq_left (by omega : p ≤ L.length), List.take_of_length_le (by rw [List.length_take]; omega : (L.take p).length ≤ n), List.take_of_length_le (by omega : C.length ≤ n - p), List.take_take, Nat.min_eq_left (by omega : p ≤ n), List.drop_take, Nat.sub_sub]

/-- copy(dst, src): dst a place in a row of the call's own, src any row elsewhere. -/
theorem wpList_copyB {w : World} {ops : Array Oper} {rest : List Oper} {o : Oper} {a : Act} {Q : Exit → Act → World → Prop} (hgd : o.guard = none) (d s : Operand)
    (ho : o.op = .call { callee := .builtin .copy, args := #[d, s], argTypes := #[27, 27] })
    (base g p n c dCap k sCap : Nat) (b : Option Addr) (M R : List Nat) (hd : a.eval d = .slice (some ⟨g, p, none⟩) (n - p) dCap) (hs : a.eval s = .slice b R.length sCap)
    (hk : k = Nat.min R.length (n - p)) (hk0 : 0 < k) (hM : M.length = n) (hp : p ≤ n) (hO : OwnB w base (.slice (some ⟨g, 0, none⟩) n c) M) (hR : RowB w b R)
    (h : ∀ w', Hid (OwnB w' base (.slice (some ⟨g, 0, none⟩) n c) (splice M p (R.take k))) → w.grownBy w' (some g) → wpList Try.prog ops Q rest (a.put o.dst (goInt k)) w') :
    wpList Try.prog ops Q (o :: rest) a w := by
  have hkl : k ≤ R.length := by rw [hk]; exact Nat.min_le_left _ _
  have hkp : k ≤ n - p := by rw [hk]; exact Nat.min_le_right _ _
  have htl : (R.take k).length = k := by rw [List.length_take]; omega
  obtain ⟨gx, ox, rfl, hgx, hcx⟩ := hR.2 (by omega)
  rcases hO.2.2 with ⟨_, h0⟩ | ⟨g', cap, cur, hv, hb, hg, h1, h2, h3, h4⟩
  · omega
  simp only [Value.slice.injEq, Option.some.injEq, Addr.mk.injEq, and_true] at hv
  obtain ⟨rfl, _, rfl⟩ := hv
  refine wpList_copy_own hgd d s 27 27 ho 5 Try.underlying27 (by kernel_rfl) g p (n - p) dCap ⟨gx, ox, none⟩ R.length sCap hd hs cur 5 hg ((R.take k).map u8V) (by rw [List.length_map, htl, hk]) ?_ ?_ ?_ ?_
  · intro j v hj
    have := rowCells hR j v
    apply this
    rw [List.map_take] at hj
    rw [List.getElem?_take] at hj
    split at hj
    · exact hj
    · cases hj
  · rw [List.length_map, htl]; omega
  · intro v hv
    rw [List.map_take] at hv
    exact u8V_one R v (List.mem_of_mem_take hv)
  · have hml : ((R.take k).map u8V).length = k := by rw [List.length_map, htl]
    rw [hml]
    have hsl : (splice M p (R.take k)).length = n := by rw [length_splice _ _ _ (by rw [htl]; omega)]; exact hM
    refine h _ (Lib.hid ⟨splice_bytes hO.1 (fun i hi => ?_), ?_⟩) ?_
    · rw [htl] at hi
      have := hR.1 i (by omega)
      rw [List.getD, List.getElem?_take, if_pos hi]
      exact this
    · refine ⟨by simp, .inr ⟨g, c, _, by rw [hsl], hb, setRow_heap w g cur _ 5 (0, 0) hg, by rw [hsl]; omega, h2, ?_, ?_⟩⟩
      · simp only [List.size_toArray, List.length_append, List.length_take, List.length_drop, Array.length_toList, List.length_map, Nat.mul_one]
        omega
      · rw [hsl, Nat.mul_one]
        have h4' : cur.toList.take n = M.map u8V := by rw [← h4, hM, Nat.mul_one]
        rw [splice_map, ← h4']
        have e : cur.toList.take p ++ ((R.take k).map u8V ++ cur.toList.drop (p + k)) = splice cur.toList p ((R.take k).map u8V) := by rw [splice, hml]
        rw [e]
        exact splice_take _ _ _ _ (by rw [List.length_map, htl]; omega) (by rw [Array.length_toList]; omega)
    · exact ⟨rfl, rfl, rfl, by simp [World.setRow], fun k _ hne => setRow_other w g k _ (by intro e; exact hne (by rw [e]))⟩

end Go.Proofs.Ytblchdmemhhcbaa
