/-
  A contract over the program's put: bytes laid into a memory of the call's own, round by round.
-/
import Derived.Test.YtblchdmemhhcbaaGreatQSAluA
import Derived.Test.YtblchdmemhhcbaaGreatQSStepRel
import Derived.Laws.CopyOwn
namespace Go.Proofs.YtblchdmemhhcbaaGreat
set_option linter.unusedVariables false
set_option linter.unusedSimpArgs false
open Go.RowKit

/-- A processor at its bus. -/
structure St where
  c : CpuN
  b : BusN

def inPage (base a : Nat) : Nat := base / 256 * 256 + a % 256

def St.rdAt (s : St) (a : Nat) : Nat × St := (s.b.get a, ⟨s.c, s.b.rd a⟩)
def St.wrAt (s : St) (a d : Nat) : St := ⟨s.c, s.b.put a d⟩
def St.fetch (s : St) : Nat × St := (s.b.get s.c.PC, ⟨{ s.c with PC := (s.c.PC + 1) % 65536 }, s.b.rd s.c.PC⟩)
def St.idle (s : St) : St := ⟨s.c, s.b.rd s.c.PC⟩
def St.idleStk (s : St) : St := ⟨s.c, s.b.rd (stk s.c.S)⟩
def St.push (s : St) (d : Nat) : St := ⟨{ s.c with S := (s.c.S + 255) % 256 }, s.b.put (stk s.c.S) d⟩
def St.pull (s : St) : Nat × St := (s.b.get (stk (s.c.S + 1)), ⟨{ s.c with S := (s.c.S + 1) % 256 }, s.b.rd (stk (s.c.S + 1))⟩)
def St.fetchW (s : St) : Nat × St := (word s.fetch.1 s.fetch.2.fetch.1, s.fetch.2.fetch.2)
def St.readW (s : St) (a : Nat) : Nat × St :=
  (word (s.b.get a) ((s.b.rd a).get (inPage a ((a + 1) % 65536))), ⟨s.c, (s.b.rd a).rd (inPage a ((a + 1) % 65536))⟩)
def St.pushPC (s : St) : St := (s.push (s.c.PC / 256)).push (s.c.PC % 256)
def St.pullPC (s : St) : St := ⟨{ s.pull.2.pull.2.c with PC := word s.pull.1 s.pull.2.pull.1 }, s.pull.2.pull.2.b⟩
def St.zero (s : St) (i : Nat) : Nat × St := ((s.fetch.1 + i) % 256, ⟨s.fetch.2.c, s.fetch.2.b.rd s.fetch.1⟩)
def St.indexed (s : St) (base i : Nat) (k : Int) : Nat × St :=
  ((base + i) % 65536, if inPage base ((base + i) % 65536) ≠ (base + i) % 65536 ∨ k ≠ 2 then ⟨s.c, s.b.rd (inPage base ((base + i) % 65536))⟩ else s)
def St.place (s : St) (m k : Int) : Nat × St :=
  if m = 2 then (s.c.PC, ⟨{ s.c with PC := (s.c.PC + 1) % 65536 }, s.b⟩)
  else if m = 3 then s.fetch
  else if m = 4 then s.zero s.c.X
  else if m = 5 then s.zero s.c.Y
  else if m = 6 then s.fetchW
  else if m = 7 then s.fetchW.2.indexed s.fetchW.1 s.c.X k
  else if m = 8 then s.fetchW.2.indexed s.fetchW.1 s.c.Y k
  else if m = 10 then (s.zero s.c.X).2.readW (s.zero s.c.X).1
  else (s.fetch.2.readW s.fetch.1).2.indexed (s.fetch.2.readW s.fetch.1).1 s.c.Y k
def CpuN.pk (c : CpuN) (brk : Bool) : Nat := (pkV c.N c.V brk c.D c.I c.Z c.C).toNat
def St.inter (s : St) (vec : Nat) (brk : Bool) : St :=
  let t := s.pushPC.push (s.pushPC.c.pk brk)
  ⟨{ t.c with I := true, PC := (t.readW vec).1 }, (t.readW vec).2.b⟩
def CpuN.unpack (c : CpuN) (d : Nat) : CpuN := { c with N := hasB d 128, V := hasB d 64, D := hasB d 8, I := hasB d 4, Z := hasB d 2, C := hasB d 1 }

end Go.Proofs.YtblchdmemhhcbaaGreat

namespace Go.Proofs.YtblchdmemhhcbaaGreat
set_option linter.unusedVariables false
set_option linter.unusedSimpArgs false
open Go.RowKit

theorem ramI_no {n : Int} (h : ramI n = false) : (n == 256) = false ∧ (n == 512) = false ∧ (n == 1024) = false ∧ (n == 2048) = false ∧ (n == 4096) = false := by
  unfold ramI ramN at h
  rw [Bool.and_eq_false_iff] at h
  simp only [beq_eq_false_iff_ne]
  rcases h with h | h
  · have := of_decide_eq_false h; omega
  · have := of_decide_eq_false h; omega

theorem ramI_nat (n : Nat) : ramI (n : Int) = ramN n := by
  unfold ramI
  rw [decide_eq_true (by omega : (0 : Int) ≤ (n : Int))]
  simp

set_option maxRecDepth 100000 in
theorem sizeOk_any (n : Int) (w : World) :
    Calls Tryz.prog 92 #[.int .i64 n] w fun e w' => e = .returned (.bool (ramI n)) ∧ w = w' := by
  cases h : ramI n with
  | false =>
    obtain ⟨t1, t2, t3, t4, t5⟩ := ramI_no h
    clear h
    go_enter Tryz.func92, Tryz.ntmps92
    go_wp2
    go_ret
    exact ⟨rfl, rfl⟩
  | true =>
    unfold ramI at h
    rw [Bool.and_eq_true] at h
    obtain ⟨d, rfl⟩ := Int.eq_ofNat_of_zero_le (of_decide_eq_true h.1)
    have hr : ramN d = true := by simpa using h.2
    clear h
    rcases ramN_tests hr with t1 | ⟨t1, t2⟩ | ⟨t1, t2, t3⟩ | ⟨t1, t2, t3, t4⟩ | ⟨t1, t2, t3, t4, t5⟩
    all_goals
      clear hr
      go_enter Tryz.func92, Tryz.ntmps92
      go_wp2
      go_ret
      exact ⟨rfl, rfl⟩

set_option maxRecDepth 100000 in
theorem implOk_any (a : Option Addr) (n c : Nat) (w : World) :
    Calls Tryz.prog 50 #[ramV (.slice a n c)] w fun e w' => e = .returned (.bool (ramN n)) ∧ Below w.heap.size w w' := by
  have HS := fun w => sizeOk_any (n : Int) w
  rw [ramI_nat] at HS
  go_enter Tryz.func50, Tryz.ntmps50
  go_wp2_with fail
  refine (HS _).mono ?_
  rintro e w1 ⟨rfl, rfl⟩
  go_wp2
  go_ret
  exact ⟨rfl, (Below.refl _ _).alloc (Nat.le_refl _) _⟩

set_option maxRecDepth 100000 in
theorem implNew_any (n : Int) (w : World) :
    Calls Tryz.prog 53 #[.int .i64 n] w fun e w' => ∃ v, e = .returned (ramV v) ∧ OwnB w' w.heap.size v (newL n) ∧ Below w.heap.size w w' := by
  have HS := fun w => sizeOk_any n w
  cases h : ramI n with
  | false =>
    have hL : newL n = [] := by unfold newL; rw [h]; rfl
    rw [hL]
    rw [h] at HS
    clear h hL
    go_enter Tryz.func53, Tryz.ntmps53
    go_wp2_with fail
    refine (HS _).mono ?_
    rintro e w1 ⟨rfl, rfl⟩
    go_wp2
    exact bodyPost_ret (v := ramV (.slice none 0 0)) (by simp [results, Tryz.results53, go_sem]) rfl ⟨_, rfl, ownNil _ _, (Below.refl _ _).alloc (Nat.le_refl _) _⟩
  | true =>
    rw [h] at HS
    unfold ramI at h
    rw [Bool.and_eq_true] at h
    obtain ⟨d, rfl⟩ := Int.eq_ofNat_of_zero_le (of_decide_eq_true h.1)
    have hr : ramN d = true := by simpa using h.2
    have hL : newL d = List.replicate d 0 := by unfold newL ramI; rw [if_pos (by simp [hr])]; simp
    have hmk := fun w => makeB d (by have := ramN_pos hr; omega) w
    have hb := ramN_pos hr
    rw [hL]
    clear h hL hr
    go_enter Tryz.func53, Tryz.ntmps53
    go_wp2_with fail
    refine (HS _).mono ?_
    rintro e w1 ⟨rfl, rfl⟩
    go_wp2
    refine bodyPost_ret (v := ramV (.slice (some ⟨w.heap.size + 1, 0, none⟩) d d)) (by simp [results, Tryz.results53, go_sem]) rfl ⟨_, rfl, ?_, ?_⟩
    · have := ownNewB (w.alloc (Obj.cells #[Value.slice (some ⟨w.heap.size + 1, 0, none⟩) d d] 30)) (List.replicate d 0) (by rw [List.length_replicate]; unfold maxLen; omega) (fun i hi => by simp [List.getD, List.getElem?_replicate]; split <;> simp)
      simp only [World.size_alloc, List.length_replicate, List.map_replicate, u8V] at this
      exact OwnB.base this (by omega)
    · exact ((Below.refl _ _).alloc (Nat.le_refl _) _).alloc (by simp) _

set_option maxRecDepth 100000 in
theorem place_any (a : Option Addr) (n c addr : Nat) (ha : addr < 65536) (hn : 0 < n ∧ n ≤ 4096) (w : World) :
    Calls Tryz.prog 74 #[ramV (.slice a n c), .int .u16 addr] w fun e w' => e = .returned (.int .i64 ((addr % n : Nat) : Int)) ∧ w' = w.alloc (.cells #[.slice a n c] 30) := by
  obtain ⟨k, hk⟩ : ∃ k, addr % n = k := ⟨_, rfl⟩
  have hkl : k < n := by rw [← hk]; exact Nat.mod_lt _ (by omega)
  have w2' : (addr : Int).tmod (n : Int) = (k : Int) := by rw [idx_rem _ _ (by omega), hk]
  have hn0 : ((n : Int) == 0) = false := beq_eq_false_iff_ne.2 (by omega)
  have hn1 : ¬ (n : Int) = 0 := by omega
  have hn2 : ¬ n = 0 := by omega
  have w1' : IntKind.i64.wrap (addr : Int) = (addr : Int) := IntWalk.i64_in _ (by omega)
  have w3' : IntKind.i64.wrap (k : Int) = (k : Int) := IntWalk.i64_in _ (by omega)
  rw [hk]
  clear hk
  go_enter Tryz.func74, Tryz.ntmps74
  go_wp2
  go_ret
  exact ⟨rfl, rfl⟩

set_option maxRecDepth 100000 in
theorem implPeek_any (a : Option Addr) (c addr : Nat) (L : List Nat) (ha : addr < 65536) (w : World) (hr : RowB w a L) :
    Calls Tryz.prog 38 #[ramV (.slice a L.length c), .int .u16 addr] w fun e w' => e = .returned (.int .u8 (peekL L addr)) ∧ Below w.heap.size w w' := by
  have HO := fun w => implOk_any a L.length c w
  cases h : ramN L.length with
  | false =>
    have e : peekL L addr = 0 := by unfold peekL; rw [h]; rfl
    rw [e]
    rw [h] at HO
    clear h e
    go_enter Tryz.func38, Tryz.ntmps38
    go_wp2_with fail
    refine (HO _).mono ?_
    rintro e w1 ⟨rfl, b1⟩
    have b2 := bstep ((Below.refl _ _).alloc (Nat.le_refl _) _) b1
    go_wp2
    go_ret
    exact ⟨rfl, b2⟩
  | true =>
    have hb := ramN_pos h
    obtain ⟨g, o, rfl, hg, hc⟩ := hr.2 (by omega)
    have HP := fun w => place_any (some ⟨g, o, none⟩) L.length c addr ha (by omega) w
    obtain ⟨k, hk⟩ : ∃ k, addr % L.length = k := ⟨_, rfl⟩
    have hkl : k < L.length := by rw [← hk]; exact Nat.mod_lt _ (by omega)
    have e : peekL L addr = L.getD k 0 := by unfold peekL; rw [if_pos h, hk]
    rw [e]
    have hck := hc k hkl
    obtain ⟨x, hx⟩ : ∃ x, L.getD k 0 = x := ⟨_, rfl⟩
    rw [hx] at hck ⊢
    have hx2 : x < 256 := by rw [← hx]; exact hr.1 k hkl
    rw [h] at HO
    rw [hk] at HP
    have hck2 := (((Below.refl _ _).alloc (Nat.le_refl _) (.cells #[.slice (some ⟨g, o, none⟩) L.length c] 30)).cell (p := ⟨g, o + k, none⟩) hg).trans hck
    unfold u8V at hck2
    have ik : (0 : Int) ≤ (k : Int) ∧ (k : Int) < (L.length : Int) := by omega
    clear h e hc hx hr hk hck
    go_enter Tryz.func38, Tryz.ntmps38
    go_wp2_with fail
    refine (HO _).mono ?_
    rintro e w1 ⟨rfl, b1⟩
    have hs1 : w.heap.size < w1.heap.size := Nat.lt_of_lt_of_le (by simp) b1.size
    have hgs : g < w1.heap.size := by omega
    have hcb : w1.cell? ⟨w.heap.size, 0, none⟩ = some (.slice (some ⟨g, o, none⟩) L.length c) := (b1.cell (p := ⟨w.heap.size, 0, none⟩) (by simp)).trans (by simp)
    have hcx := (b1.cell (p := ⟨g, o + k, none⟩) (by simp; omega)).trans hck2
    have b2 := bstep ((Below.refl _ _).alloc (Nat.le_refl _) _) b1
    have b3 := b2.alloc (by omega) (.cells #[.slice (some ⟨g, o, none⟩) L.length c] 30)
    clear b1 hck2
    have S0 : w1.drew.cell? ⟨w.heap.size, 0, none⟩ = some (.slice (some ⟨g, o, none⟩) L.length c) ∧ w1.drew.cell? ⟨g, o + k, none⟩ = some (.int .u8 (x : Int)) := ⟨hcb, hcx⟩
    have S1 : (w1.alloc (.cells #[.slice (some ⟨g, o, none⟩) L.length c] 30)).drew.cell? ⟨w.heap.size, 0, none⟩ = some (.slice (some ⟨g, o, none⟩) L.length c) ∧ (w1.alloc (.cells #[.slice (some ⟨g, o, none⟩) L.length c] 30)).drew.cell? ⟨g, o + k, none⟩ = some (.int .u8 (x : Int)) :=
      ⟨(World.cell?_alloc_past _ _ _ (by show w.heap.size < w1.heap.size; omega)).trans hcb, (World.cell?_alloc_past _ _ _ (by show g < w1.heap.size; omega)).trans hcx⟩
    go_wp2_with fail
    go_region_held3 (fun w' => w'.cell? ⟨w.heap.size, 0, none⟩ = some (.slice (some ⟨g, o, none⟩) L.length c) ∧ w'.cell? ⟨g, o + k, none⟩ = some (.int .u8 (x : Int)))
      (((try dsimp only); (first | (with_reducible exact S0) | (with_reducible exact S1))))
      (first | (go_at_call 74; refine (HP _).mono ?_; rintro e w2 ⟨rfl, rfl⟩))
    go_wp2
    go_ret
    exact ⟨rfl, b3.drew⟩

end Go.Proofs.YtblchdmemhhcbaaGreat

namespace Go.Proofs.YtblchdmemhhcbaaGreat
set_option linter.unusedVariables false
set_option linter.unusedSimpArgs false
open Go.RowKit

/-- The bytes laid over a row from a place on, put one by one. -/
theorem fillAt_splice (n addr : Nat) (hd : n ∣ 65536) : ∀ (R : List Nat) (k p j : Nat) (M : List Nat), M.length = n → p + k ≤ n → k ≤ R.length → (0 < k → p = (addr + j) % 65536 % n) →
    fillAt n addr R j M = fillAt n addr (R.drop k) (j + k) (splice M p (R.take k))
  | R, 0, p, j, M, _, _, _, _ => by simp [splice]
  | [], k + 1, p, j, M, _, _, hk, _ => by simp at hk
  | x :: r, k + 1, p, j, M, hM, hp, hk, hpp => by
    have e := hpp (by omega)
    rw [fillAt, ← e]
    have hstep : 0 < k → p + 1 = (addr + (j + 1)) % 65536 % n := fun h0 => by
      rw [Nat.mod_mod_of_dvd _ hd] at e ⊢
      have h1 : (addr + (j + 1)) % n = ((addr + j) % n + 1) % n := by rw [show addr + (j + 1) = (addr + j) + 1 by omega, Nat.add_mod]; simp
      rw [h1, ← e, Nat.mod_eq_of_lt (by omega)]
    rw [fillAt_splice n addr hd r k (p + 1) (j + 1) (M.set p x) (by rw [List.length_set]; exact hM) (by omega) (by simpa using hk) hstep]
    have e2 : splice (M.set p x) (p + 1) (r.take k) = splice M p ((x :: r).take (k + 1)) := by
      have hl : (r.take k).length = k := by rw [List.length_take]; simp at hk; omega
      simp only [splice, List.take_succ_cons, List.length_cons, hl]
      rw [List.take_set, List.drop_set_of_lt (by omega), show p + 1 + k = p + (k + 1) by omega]
      have : (M.take (p + 1)).set p x = M.take p ++ [x] := by
        rw [List.take_succ_eq_append_getElem (by omega), List.set_append_right _ _ (by rw [List.length_take]; omega)]
        simp [List.length_take, Nat.min_eq_left (by omega : p ≤ M.length)]
      rw [this]; simp
    rw [e2]
    simp only [List.drop_succ_cons]
    rw [show j + 1 + k = j + (k + 1) by omega]

theorem fillAt_whole (n : Nat) (hd : n ∣ 65536) (hn : 0 < n) (L M : List Nat) (hM : M.length = n) (hL : L.length = n) : fillAt n 0 L 0 M = L := by
  rw [fillAt_splice n 0 hd L n 0 0 M hM (by omega) (by omega) (fun _ => by simp)]
  rw [List.drop_of_length_le (by omega), fillAt, List.take_of_length_le (by omega)]
  simp [splice, hL, ← hM]

theorem ramN_dvd {n : Nat} (h : ramN n = true) : n ∣ 65536 := by
  rcases ramN_cases h with rfl | rfl | rfl | rfl | rfl <;> decide

theorem splice_bytes {M R : List Nat} {p : Nat} (hM : ∀ i, i < M.length → M.getD i 0 < 256) (hR : ∀ i, i < R.length → R.getD i 0 < 256) : ∀ i, i < (splice M p R).length → (splice M p R).getD i 0 < 256 := by
  have key : ∀ L : List Nat, (∀ i, i < L.length → L.getD i 0 < 256) ↔ ∀ x ∈ L, x < 256 := fun L => by
    constructor
    · intro h x hx
      obtain ⟨i, hi, rfl⟩ := List.mem_iff_getElem.1 hx
      have := h i hi
      rwa [List.getD, List.getElem?_eq_getElem hi] at this
    · intro h i hi
      rw [List.getD, List.getElem?_eq_getElem hi]
      exact h _ (List.getElem_mem _)
  rw [key] at hM hR ⊢
  intro x hx
  simp only [splice, List.mem_append] at hx
  rcases hx with hx | hx | hx
  · exact hM x (List.mem_of_mem_take hx)
  · exact hR x hx
  · exact hM x (List.mem_of_mem_drop hx)

theorem splice_map {α β : Type} (f : α → β) (L : List α) (p : Nat) (C : List α) : (splice L p C).map f = splice (L.map f) p (C.map f) := by
  simp [splice]

theorem splice_take {α : Type} (L : List α) (p n : Nat) (C : List α) (h : p + C.length ≤ n) (hn : n ≤ L.length) : (splice L p C).take n = splice (L.take n) p C := by
  simp only [splice]
  rw [List.take_append, List.take_append, List.length_take, Nat.min_eq_left (by omega : p ≤ L.length), List.take_of_length_le (by rw [List.length_take]; omega : (L.take p).length ≤ n), List.take_of_length_le (by omega : C.length ≤ n - p), List.take_take, Nat.min_eq_left (by omega : p ≤ n), List.drop_take, Nat.sub_sub]

/-- copy(dst, src): dst a place in a row of the call's own, src any row elsewhere. -/
theorem wpList_copyB {w : World} {ops : Array Oper} {rest : List Oper} {o : Oper} {a : Act} {Q : Exit → Act → World → Prop} (hgd : o.guard = none) (d s : Operand)
    (ho : o.op = .call { callee := .builtin .copy, args := #[d, s], argTypes := #[22, 22] })
    (base g p n c dCap k sCap : Nat) (b : Option Addr) (M R : List Nat) (hd : a.eval d = .slice (some ⟨g, p, none⟩) (n - p) dCap) (hs : a.eval s = .slice b R.length sCap)
    (hk : k = Nat.min R.length (n - p)) (hk0 : 0 < k) (hM : M.length = n) (hp : p ≤ n) (hO : OwnB w base (.slice (some ⟨g, 0, none⟩) n c) M) (hR : RowB w b R)
    (h : ∀ w', Hid (OwnB w' base (.slice (some ⟨g, 0, none⟩) n c) (splice M p (R.take k))) → w.grownBy w' (some g) → wpList Tryz.prog ops Q rest (a.put o.dst (goInt k)) w') :
    wpList Tryz.prog ops Q (o :: rest) a w := by
  have hkl : k ≤ R.length := by rw [hk]; exact Nat.min_le_left _ _
  have hkp : k ≤ n - p := by rw [hk]; exact Nat.min_le_right _ _
  have htl : (R.take k).length = k := by rw [List.length_take]; omega
  obtain ⟨gx, ox, rfl, hgx, hcx⟩ := hR.2 (by omega)
  rcases hO.2.2 with ⟨_, h0⟩ | ⟨g', cap, cur, hv, hb, hg, h1, h2, h3, h4⟩
  · omega
  simp only [Value.slice.injEq, Option.some.injEq, Addr.mk.injEq, and_true] at hv
  obtain ⟨rfl, _, rfl⟩ := hv
  refine wpList_copy_own hgd d s 22 22 ho 5 Tryz.underlying22 (by kernel_rfl) g p (n - p) dCap ⟨gx, ox, none⟩ R.length sCap hd hs cur 5 hg ((R.take k).map u8V) (by rw [List.length_map, htl, hk]) ?_ ?_ ?_ ?_
  · intro j v hj
    have := rowCells hR j v
    apply this
    rw [List.map_take] at hj
    rw [List.getElem?_take] at hj
    split at hj
    · exact hj
    · cases hj
  · rw [List.length_map, htl]; omega
  · intro v hv
    rw [List.map_take] at hv
    exact u8V_one R v (List.mem_of_mem_take hv)
  · have hml : ((R.take k).map u8V).length = k := by rw [List.length_map, htl]
    rw [hml]
    have hsl : (splice M p (R.take k)).length = n := by rw [length_splice _ _ _ (by rw [htl]; omega)]; exact hM
    refine h _ (Lib.hid ⟨splice_bytes hO.1 (fun i hi => ?_), ?_⟩) ?_
    · rw [htl] at hi
      have := hR.1 i (by omega)
      rw [List.getD, List.getElem?_take, if_pos hi]
      exact this
    · refine ⟨by simp, .inr ⟨g, c, _, by rw [hsl], hb, setRow_heap w g cur _ 5 (0, 0) hg, by rw [hsl]; omega, h2, ?_, ?_⟩⟩
      · simp only [List.size_toArray, List.length_append, List.length_take, List.length_drop, Array.length_toList, List.length_map, Nat.mul_one]
        omega
      · rw [hsl, Nat.mul_one]
        have h4' : cur.toList.take n = M.map u8V := by rw [← h4, hM, Nat.mul_one]
        rw [splice_map, ← h4']
        have e : cur.toList.take p ++ ((R.take k).map u8V ++ cur.toList.drop (p + k)) = splice cur.toList p ((R.take k).map u8V) := by rw [splice, hml]
        rw [e]
        exact splice_take _ _ _ _ (by rw [List.length_map, htl]; omega) (by rw [Array.length_toList]; omega)
    · exact ⟨rfl, rfl, rfl, by simp [World.setRow], fun k _ hne => setRow_other w g k _ (by intro e; exact hne (by rw [e]))⟩

end Go.Proofs.YtblchdmemhhcbaaGreat

namespace Go.Proofs.YtblchdmemhhcbaaGreat
set_option linter.unusedVariables false
set_option linter.unusedSimpArgs false
open Go.RowKit

def lenOf : Value → Nat
  | .slice _ n _ => n
  | _ => 0

theorem RowB.grownBut {w w' : World} {g : Nat} {b : Option Addr} {R : List Nat} (h : RowB w b R) (hg : w.grownBy w' (some g)) (hne : 0 < R.length → ∀ a, b = some a → a.block ≠ g) : RowB w' b R := by
  refine ⟨h.1, fun h0 => ?_⟩
  obtain ⟨gx, ox, rfl, hlt, hc⟩ := h.2 h0
  have hb := hg.block gx hlt (by have := hne h0 _ rfl; simp at this; simpa using this)
  exact ⟨gx, ox, rfl, Nat.lt_of_lt_of_le hlt hg.size, fun i hi => (World.cell?_of_block (a := ⟨gx, ox + i, none⟩) hb).trans (hc i hi)⟩

theorem RowB.cut {w : World} {g o : Nat} {R : List Nat} (h : RowB w (some ⟨g, o, none⟩) R) (k : Nat) : RowB w (some ⟨g, o + k, none⟩) (R.drop k) := by
  have hd : ∀ i, i < (R.drop k).length → (R.drop k).getD i 0 = R.getD (k + i) 0 := fun i _ => by simp [List.getD]
  refine ⟨fun i hi => ?_, fun h0 => ?_⟩
  · rw [hd i hi]; rw [List.length_drop] at hi; exact h.1 _ (by omega)
  · rw [List.length_drop] at h0
    obtain ⟨g', o', e, hlt, hc⟩ := h.2 (by omega)
    simp only [Option.some.injEq, Addr.mk.injEq, and_true] at e
    obtain ⟨rfl, rfl⟩ := e
    refine ⟨g, o + k, rfl, hlt, fun i hi => ?_⟩
    rw [hd i hi]
    rw [List.length_drop] at hi
    rw [Nat.add_assoc]
    exact hc (k + i) (by omega)

theorem RowB.none (w : World) (b : Option Addr) : RowB w b [] := ⟨fun i hi => by simp at hi, fun h => by simp at h⟩

set_option maxRecDepth 100000 in
set_option maxHeartbeats 2000000 in
theorem put_any (g n c base addr : Nat) (M : List Nat) (b : Option Addr) (cx : Nat) (X : List Nat) (w : World) (ha : addr < 65536) (hn : ramN n = true) (hM : M.length = n) (hO : OwnB w base (.slice (some ⟨g, 0, none⟩) n c) M) (hX : RowB w b X) (hne : 0 < X.length → ∀ a, b = some a → a.block ≠ g) (hXl : X.length ≤ 1048576) (hcx : X.length ≤ cx) :
    Calls Tryz.prog 54 #[ramV (.slice (some ⟨g, 0, none⟩) n c), .int .u16 addr, .slice b X.length cx] w fun e w' => e = .returned (.tuple #[]) ∧ OwnB w' base (.slice (some ⟨g, 0, none⟩) n c) (fillAt n addr X 0 M) ∧ w.grownBy w' (some g) := by
  have hnn := ramN_pos hn
  have hdv := ramN_dvd hn
  have hnc : n ≤ c ∧ c ≤ maxLen ∧ g < w.heap.size := by
    rcases hO.2.2 with ⟨_, h0⟩ | ⟨g', cap, cur, hv, _, hg, h1, h2, _⟩
    · omega
    · simp only [Value.slice.injEq, Option.some.injEq, Addr.mk.injEq, and_true] at hv
      obtain ⟨rfl, _, rfl⟩ := hv
      exact ⟨by omega, h2, (Array.getElem?_eq_some_iff.1 hg).1⟩
  obtain ⟨hnc, hcm, hgl⟩ := hnc
  unfold maxLen at hcm
  have HP := fun w => place_any (some ⟨g, 0, none⟩) n c addr ha (by omega) w
  obtain ⟨p0, hp0⟩ : ∃ p, addr % n = p := ⟨_, rfl⟩
  have hp0l : p0 < n := by rw [← hp0]; exact Nat.mod_lt _ (by omega)
  rw [hp0] at HP
  have HP0 := Lib.hid hp0
  have HD := Lib.hid hdv
  clear hn hdv hp0
  have bx0 := BoxN.new w 30 #[.slice (some ⟨g, 0, none⟩) n c]
  have bx1 := bx0.below ((Below.refl _ _).alloc (Nat.le_refl _) (.cells #[.slice (some ⟨g, 0, none⟩) n c] 30))
  have B2 : Below w.heap.size w ((w.alloc (.cells #[.slice (some ⟨g, 0, none⟩) n c] 30)).alloc (.cells #[.slice (some ⟨g, 0, none⟩) n c] 30)) := ((Below.refl _ _).alloc (Nat.le_refl _) _).alloc (by simp) _
  have H0 := Lib.hid (And.intro (hO.below B2) (And.intro (hX.below B2) (And.intro bx1 B2)))
  clear bx0 bx1 B2 hO hX
  go_enter Tryz.func54, Tryz.ntmps54
  go_wp2_with fail
  refine (HP _).mono ?_
  rintro e w1 ⟨rfl, hw1⟩
  have H1 : Hid (OwnB w1 base (.slice (some ⟨g, 0, none⟩) n c) M ∧ RowB w1 b X ∧ BoxN w1 w.heap.size 30 #[.slice (some ⟨g, 0, none⟩) n c] ∧ Below w.heap.size w w1) := by rw [hw1]; exact H0
  clear hw1 H0
  go_wp2
  go_loopw [2, 6] (fun l q wr => ∃ (j p : Nat) (R M' : List Nat) (b' : Option Addr) (cb : Nat), l = .slice b' R.length cb ∧ q = .int .i64 p ∧ p < n ∧ R.length ≤ cb ∧ R.length ≤ 1048576 ∧ Hid (M'.length = n ∧ (0 < R.length → p = (addr + j) % 65536 % n) ∧ OwnB wr base (.slice (some ⟨g, 0, none⟩) n c) M' ∧ RowB wr b' R ∧ (0 < R.length → ∀ a, b' = some a → a.block ≠ g) ∧ BoxN wr w.heap.size 30 #[.slice (some ⟨g, 0, none⟩) n c] ∧ w.grownBy wr (some g) ∧ fillAt n addr R j M' = fillAt n addr X 0 M)) (fun l _ _ => lenOf l)
  case atStart => exact ⟨0, p0, X, M, b, cx, rfl, rfl, hp0l, hcx, hXl, Lib.hid ⟨hM, fun _ => by rw [Nat.add_zero, Nat.mod_eq_of_lt ha, HP0.out], H1.out.1, H1.out.2.1, hne, H1.out.2.2.1, grownBelow H1.out.2.2.2, rfl⟩⟩
  case round =>
    obtain ⟨j, p, R, M', b', cb, rfl, rfl, hp, hcb, hRl, HI⟩ := hrel
    obtain ⟨hM', hpp, hO', hR', hne', bx', gw', hF⟩ := HI.out
    by_cases hz : R.length = 0
    · obtain rfl : R = [] := List.eq_nil_of_length_eq_zero hz
      have HO' := Lib.hid hO'
      have HF := Lib.hid hF
      clear HI hM' hpp hO' hR' hne' bx' hF
      go_wp2
      first | go_end0 | (go_ret) | trace_state
      refine ⟨rfl, ?_, gw'⟩
      rw [← HF.out, fillAt]
      exact HO'.out
    · obtain ⟨k, hk⟩ : ∃ k, Nat.min R.length (n - p) = k := ⟨_, rfl⟩
      have hkr : k ≤ R.length := by rw [← hk]; exact Nat.min_le_left _ _
      have hkp : k ≤ n - p := by rw [← hk]; exact Nat.min_le_right _ _
      have hk0 : 0 < k := by rw [← hk]; exact Nat.lt_min.2 ⟨by omega, by omega⟩
      have hkw : k = R.length ∨ k = n - p := by rw [← hk]; unfold Nat.min; rcases Nat.le_total R.length (n - p) with q | q <;> simp [Nat.min_def] <;> omega
      obtain ⟨gx, ox, rfl, hgx, _⟩ := hR'.2 (by omega)
      have hc3 := bx'.cell 0 _ rfl
      have HK := Lib.hid hk
      have HO' := Lib.hid hO'
      have HR' := Lib.hid hR'
      have HB := Lib.hid bx'
      have HG := Lib.hid gw'
      have HPP := Lib.hid hpp
      have HF := Lib.hid hF
      have HM' := Lib.hid hM'
      have HKW := Lib.hid hkw
      clear HI hk hM' hpp hO' hR' bx' gw' hF hkw
      have i1 : (0 : Int) ≤ (p : Int) ∧ (p : Int) ≤ (n : Int) ∧ (n : Int) ≤ (c : Int) := by omega
      have i2 : (0 : Int) ≤ (k : Int) ∧ (k : Int) ≤ (R.length : Int) ∧ (R.length : Int) ≤ (cb : Int) := by omega
      have i3 : (0 : Int) < (R.length : Int) := by omega
      go_wp2_with (with_reducible refine wpList_copyB rfl (.tmp 17) (.tmp 18) rfl base g p n c (c - p) k cb (some ⟨gx, ox, none⟩) M' R rfl rfl HK.out.symm hk0 HM'.out (by omega) HO'.out HR'.out ?_)
      intro w2 HO2 hg2
      have HB2 := Lib.hid (show BoxN w2 w.heap.size 30 #[.slice (some ⟨g, 0, none⟩) n c] from (hg2.block w.heap.size HB.out.lt (by intro e; simp only [Option.some.injEq] at e; omega)).trans HB.out)
      have HR2 := Lib.hid (HR'.out.grownBut hg2 hne')
      have HG2 := Lib.hid (HG.out.trans hg2)
      clear hc3 HB HG HR' HO' hg2
      go_wp2
      have hgg : gx ≠ g := hne' (by omega) _ rfl
      go_roundw
      case rel =>
        refine ⟨j + k, 0, R.drop k, splice M' p (R.take k), _, cb - k, by rw [List.length_drop], rfl, by omega, by rw [List.length_drop]; omega, by rw [List.length_drop]; omega, Lib.hid ⟨?_, ?_, HO2.out, ?_, ?_, HB2.out, HG2.out, ?_⟩⟩
        · rw [length_splice _ _ _ (by rw [List.length_take, HM'.out]; omega)]; exact HM'.out
        · intro h0
          rw [List.length_drop] at h0
          have e1 : k = n - p := by rcases HKW.out with q | q; omega; exact q
          have e2 := HPP.out (by omega)
          rw [Nat.mod_mod_of_dvd _ HD.out] at e2 ⊢
          have e3 := Nat.div_add_mod (addr + j) n
          rw [show addr + (j + k) = n * ((addr + j) / n + 1) by rw [Nat.mul_add]; omega, Nat.mul_mod_right]
        · split
          · rw [List.drop_of_length_le (by omega)]; exact RowB.none _ _
          · exact HR2.out.cut k
        · intro _ a ea
          split at ea
          · simp only [Option.some.injEq] at ea; rw [← ea]; exact hgg
          · simp only [Option.some.injEq] at ea; rw [← ea]; exact hgg
        · rw [← HF.out, fillAt_splice n addr HD.out R k p j M' HM'.out (by omega) hkr (fun _ => HPP.out (by omega))]
      case measure => simp [lenOf]; omega

theorem put_zero (g n c base : Nat) (M : List Nat) (b : Option Addr) (cx : Nat) (X : List Nat) (w : World) (hn : ramN n = true) (hM : M.length = n) (hO : OwnB w base (.slice (some ⟨g, 0, none⟩) n c) M) (hX : RowB w b X) (hne : 0 < X.length → ∀ a, b = some a → a.block ≠ g) (hXl : X.length = n) (hcx : n ≤ cx) :
    Calls Tryz.prog 54 #[ramV (.slice (some ⟨g, 0, none⟩) n c), .int .u16 0, .slice b n cx] w fun e w' => e = .returned (.tuple #[]) ∧ OwnB w' base (.slice (some ⟨g, 0, none⟩) n c) X ∧ w.grownBy w' (some g) := by
  have hp := ramN_pos hn
  have h := put_any g n c base 0 M b cx X w (by omega) hn hM hO hX hne (by omega) (by omega)
  rw [fillAt_whole n (ramN_dvd hn) (by omega) X M hM hXl, hXl] at h
  exact h

end Go.Proofs.YtblchdmemhhcbaaGreat
