/-
  Memories: contracts over the law's own helpers (alike, marked, held), and over the model's Peek, Poke and Fill.
-/
import Derived.Test.YtblchdmemhhcbaaGreatQSSpan
import Derived.Laws.AppendOwnNone
import Derived.StillTailTactics
import Derived.IntWalk
import Derived.Deep.QuietTactic
import Derived.BigQuiet
namespace Go.Proofs.YtblchdmemhhcbaaGreat
set_option linter.unusedVariables false
set_option linter.unusedSimpArgs false
open Go.RowKit

/-- A memory's value. -/
abbrev ramV (v : Value) : Value := .agg #[v]

/-- Whether a memory of so many bytes is right. -/
def ramN (n : Nat) : Bool := decide (n = 256 ∨ n = 512 ∨ n = 1024 ∨ n = 2048 ∨ n = 4096)

theorem ramN_cases {n : Nat} (h : ramN n = true) : n = 256 ∨ n = 512 ∨ n = 1024 ∨ n = 2048 ∨ n = 4096 := of_decide_eq_true h
theorem ramN_pos {n : Nat} (h : ramN n = true) : 256 ≤ n ∧ n ≤ 4096 := by have := ramN_cases h; omega
theorem ramN_no {n : Nat} (h : ramN n = false) : ((n : Int) == 256) = false ∧ ((n : Int) == 512) = false ∧ ((n : Int) == 1024) = false ∧ ((n : Int) == 2048) = false ∧ ((n : Int) == 4096) = false := by
  have := of_decide_eq_false h
  simp only [beq_eq_false_iff_ne]
  omega

theorem szB_any (a : Option Addr) (n c : Nat) (l : Int) (hn : n ≤ maxLen) (hl : 0 ≤ l ∧ l ≤ 1048576) (w : World) :
    Calls Tryz.prog 55 #[.slice a n c, .int .i64 l] w fun e w' => e = .returned (.int .i64 (if l - n < 0 then -1 else l - n)) ∧ w = w' := by
  unfold maxLen at hn
  by_cases h : l - n < 0
  · rw [if_pos h]
    go_enter Tryz.func55, Tryz.ntmps55
    go_wp2
    go_ret
    exact ⟨rfl, rfl⟩
  · rw [if_neg h]
    go_enter Tryz.func55, Tryz.ntmps55
    go_wp2
    go_ret
    exact ⟨rfl, rfl⟩

theorem szRam_any (a : Option Addr) (n c : Nat) (l : Int) (hn : n ≤ maxLen) (hl : 0 ≤ l ∧ l ≤ 1048576) (w : World) :
    Calls Tryz.prog 22 #[ramV (.slice a n c), .int .i64 l] w fun e w' => e = .returned (.int .i64 (if l - n < 0 then -1 else l - n)) ∧ Below w.heap.size w w' := by
  by_cases h : l - n < 0
  · have HS := fun w => szB_any a n c l hn hl w
    rw [if_pos h] at HS ⊢
    clear h
    go_enter Tryz.func22, Tryz.ntmps22
    go_wp2_with fail
    refine (HS _).mono ?_
    rintro e w' ⟨rfl, rfl⟩
    go_wp2
    go_ret
    exact ⟨rfl, (Below.refl _ _).alloc (Nat.le_refl _) _⟩
  · have HS := fun w => szB_any a n c l hn hl w
    rw [if_neg h] at HS ⊢
    obtain ⟨q, hq⟩ : ∃ q, l - (n : Int) = q := ⟨_, rfl⟩
    rw [hq] at HS h ⊢
    clear hq
    go_enter Tryz.func22, Tryz.ntmps22
    go_wp2_with fail
    refine (HS _).mono ?_
    rintro e w' ⟨rfl, rfl⟩
    go_wp2
    go_ret
    exact ⟨rfl, (Below.refl _ _).alloc (Nat.le_refl _) _⟩

theorem ownNewB (w : World) (L : List Nat) (hL : L.length ≤ maxLen) (hb : ∀ i, i < L.length → L.getD i 0 < 256) : OwnB (w.alloc (.cells (L.map u8V).toArray 5)) w.heap.size (.slice (some ⟨w.heap.size, 0, none⟩) L.length L.length) L :=
  ⟨hb, by simp, .inr ⟨w.heap.size, L.length, (L.map u8V).toArray, rfl, Nat.le_refl _, heap_alloc_new w _, Nat.le_refl _, hL, by simp, by simp [List.take_of_length_le]⟩⟩

set_option maxRecDepth 100000 in
theorem toRam_any (a : Option Addr) (cap : Nat) (L : List Nat) (w : World) (hl : L.length ≤ 1048576) (h : RowB w a L) :
    Calls Tryz.prog 24 #[ramV (.slice a L.length cap)] w fun e w' => ∃ g, e = .returned (ramV (.slice (some ⟨g, 0, none⟩) L.length L.length)) ∧ OwnB w' w.heap.size (.slice (some ⟨g, 0, none⟩) L.length L.length) L ∧ Below w.heap.size w w' := by
  have HL := Lib.hid h
  clear h
  go_enter Tryz.func24, Tryz.ntmps24
  go_wp2_with fail
  refine (toB_any a cap L _ hl (HL.out.below (((((Below.refl _ _).alloc (Nat.le_refl _) _).alloc (by simp) _).alloc (by simp; omega) _)))).mono ?_
  rintro e w' ⟨rfl, rfl⟩
  go_wp2
  refine bodyPost_ret (v := ramV (.slice (some ⟨w.heap.size + 1 + 1 + 1, 0, none⟩) L.length L.length)) (by simp [results, Tryz.results24, go_sem]) rfl ⟨_, rfl, ?_, ?_⟩
  · have := ownNewB (((w.alloc (Obj.cells #[Value.slice a L.length cap] 51)).alloc (Obj.cells #[Value.slice (some ⟨w.heap.size + 1 + 1 + 1, 0, none⟩) L.length L.length] 30)).alloc (Obj.cells #[Value.slice (some ⟨w.heap.size + 1 + 1 + 1, 0, none⟩) L.length L.length] 30)) L (by unfold maxLen; omega) HL.out.1
    simp only [World.size_alloc] at this
    exact OwnB.base this (by omega)
  · exact ((((Below.refl _ _).alloc (Nat.le_refl _) _).alloc (by simp) _).alloc (by simp; omega) _).alloc (by simp; omega) _

theorem ramN_tests {n : Nat} (h : ramN n = true) : ((n : Int) == 256) = true ∨ (((n : Int) == 256) = false ∧ ((n : Int) == 512) = true) ∨ (((n : Int) == 256) = false ∧ ((n : Int) == 512) = false ∧ ((n : Int) == 1024) = true) ∨
    (((n : Int) == 256) = false ∧ ((n : Int) == 512) = false ∧ ((n : Int) == 1024) = false ∧ ((n : Int) == 2048) = true) ∨ (((n : Int) == 256) = false ∧ ((n : Int) == 512) = false ∧ ((n : Int) == 1024) = false ∧ ((n : Int) == 2048) = false ∧ ((n : Int) == 4096) = true) := by
  have := ramN_cases h
  simp only [beq_iff_eq, beq_eq_false_iff_ne]
  omega

set_option maxRecDepth 100000 in
theorem specOk_any (a : Option Addr) (n c : Nat) (w : World) :
    Calls Tryz.prog 12 #[ramV (.slice a n c)] w fun e w' => e = .returned (.bool (ramN n)) ∧ Below w.heap.size w w' := by
  cases h : ramN n with
  | false =>
    obtain ⟨t1, t2, t3, t4, t5⟩ := ramN_no h
    clear h
    go_enter Tryz.func12, Tryz.ntmps12
    go_wp2
    go_ret
    exact ⟨rfl, (Below.refl _ _).alloc (Nat.le_refl _) _⟩
  | true =>
    rcases ramN_tests h with t1 | ⟨t1, t2⟩ | ⟨t1, t2, t3⟩ | ⟨t1, t2, t3, t4⟩ | ⟨t1, t2, t3, t4, t5⟩
    all_goals
      clear h
      go_enter Tryz.func12, Tryz.ntmps12
      go_wp2
      go_ret
      exact ⟨rfl, (Below.refl _ _).alloc (Nat.le_refl _) _⟩

def ramI (n : Int) : Bool := decide (0 ≤ n) && ramN n.toNat
def newL (n : Int) : List Nat := if ramI n = true then List.replicate n.toNat 0 else []

set_option maxRecDepth 100000 in
theorem specNew_any (n : Int) (w : World) :
    Calls Tryz.prog 96 #[.int .i64 n] w fun e w' => ∃ v, e = .returned (ramV v) ∧ OwnB w' w.heap.size v (newL n) ∧ Below w.heap.size w w' := by
  cases h : ramI n with
  | false =>
    have hL : newL n = [] := by unfold newL; rw [h]; rfl
    rw [hL]
    have ht : (n == 256) = false ∧ (n == 512) = false ∧ (n == 1024) = false ∧ (n == 2048) = false ∧ (n == 4096) = false := by
      unfold ramI at h
      rw [Bool.and_eq_false_iff] at h
      simp only [beq_eq_false_iff_ne]
      rcases h with h | h
      · have := of_decide_eq_false h; omega
      · have := of_decide_eq_false h; omega
    obtain ⟨t1, t2, t3, t4, t5⟩ := ht
    clear h hL
    go_enter Tryz.func96, Tryz.ntmps96
    go_wp2
    exact bodyPost_ret (v := ramV (.slice none 0 0)) (by simp [results, Tryz.results96, go_sem]) rfl ⟨_, rfl, ownNil _ _, (Below.refl _ _).alloc (Nat.le_refl _) _⟩
  | true =>
    unfold ramI at h
    rw [Bool.and_eq_true] at h
    obtain ⟨d, rfl⟩ := Int.eq_ofNat_of_zero_le (of_decide_eq_true h.1)
    have hr : ramN d = true := by simpa using h.2
    have hL : newL d = List.replicate d 0 := by unfold newL ramI; rw [if_pos (by simp [hr])]; simp
    have hmk := fun w => makeB d (by have := ramN_pos hr; omega) w
    have hb := ramN_pos hr
    rw [hL]
    clear h hL
    rcases ramN_tests hr with t1 | ⟨t1, t2⟩ | ⟨t1, t2, t3⟩ | ⟨t1, t2, t3, t4⟩ | ⟨t1, t2, t3, t4, t5⟩
    all_goals
      clear hr
      go_enter Tryz.func96, Tryz.ntmps96
      go_wp2
      refine bodyPost_ret (v := ramV (.slice (some ⟨w.heap.size + 1, 0, none⟩) d d)) (by simp [results, Tryz.results96, go_sem]) rfl ⟨_, rfl, ?_, ?_⟩
      · have := ownNewB (w.alloc (Obj.cells #[Value.slice (some ⟨w.heap.size + 1, 0, none⟩) d d] 30)) (List.replicate d 0) (by rw [List.length_replicate]; unfold maxLen; omega) (fun i hi => by simp [List.getD, List.getElem?_replicate]; split <;> simp)
        simp only [World.size_alloc, List.length_replicate, List.map_replicate, u8V] at this
        exact OwnB.base this (by omega)
      · exact ((Below.refl _ _).alloc (Nat.le_refl _) _).alloc (by simp) _

end Go.Proofs.YtblchdmemhhcbaaGreat

namespace Go.Proofs.YtblchdmemhhcbaaGreat
set_option linter.unusedVariables false
set_option linter.unusedSimpArgs false
open Go.RowKit

theorem grownBelow {w w' : World} {row : Option Nat} (h : Below w.heap.size w w') : w.grownBy w' row := ⟨h.os, h.tape, h.output, h.size, fun i hi _ => h.block i hi⟩

set_option maxRecDepth 100000 in
theorem eqRam_true (a1 a2 : Option Addr) (c1 c2 : Nat) (L : List Nat) (w : World) (hl : L.length ≤ 9223372036854775806) (h1 : RowB w a1 L) (h2 : RowB w a2 L) :
    Calls Tryz.prog 26 #[ramV (.slice a1 L.length c1), ramV (.slice a2 L.length c2)] w fun e w' => e = .returned (.bool true) ∧ Below w.heap.size w w' := by
  have b1 : Below w.heap.size w ((w.alloc (.cells #[.slice a1 L.length c1] 30)).alloc (.cells #[.slice a2 L.length c2] 30)) := ((Below.refl _ _).alloc (Nat.le_refl _) _).alloc (by simp) _
  have r1 := h1.below b1
  have r2 := h2.below b1
  clear h1 h2
  go_enter Tryz.func26, Tryz.ntmps26
  go_wp2_with fail
  refine (eqB_true a1 a2 c1 c2 L _ hl r1 r2).mono ?_
  rintro e w' ⟨rfl, k, rfl⟩
  go_wp2
  go_ret
  exact ⟨rfl, below_drewN b1 k⟩

set_option maxRecDepth 100000 in
theorem markRam_any (g n cap k0 : Nat) (base : Nat) (L : List Nat) (w : World) (hn : n = L.length) (hb : k0 + n ≤ 9223372036854775806) (h : OwnB w base (.slice (some ⟨g, 0, none⟩) n cap) L) :
    Calls Tryz.prog 28 #[ramV (.slice (some ⟨g, 0, none⟩) n cap), .int .i64 k0] w fun e w' => e = .returned (.int .i64 (k0 + n : Nat)) ∧ OwnB w' base (.slice (some ⟨g, 0, none⟩) n cap) (marksB k0 n) ∧ w.grownBy w' (some g) := by
  subst hn
  have ho := h.below ((Below.refl _ _).alloc (Nat.le_refl _) (.cells #[.slice (some ⟨g, 0, none⟩) L.length cap] 30))
  clear h
  go_enter Tryz.func28, Tryz.ntmps28
  go_wp2_with fail
  refine (markB_any g L.length cap k0 base L _ rfl hb ho).mono ?_
  rintro e w' ⟨rfl, ho2, hg⟩
  go_wp2
  go_ret
  exact ⟨rfl, ho2, grownB_trans (grownBelow ((Below.refl _ _).alloc (Nat.le_refl _) _)) hg⟩

set_option maxRecDepth 100000 in
theorem markRam_empty (a : Option Addr) (cap : Nat) (k0 : Int) (w : World) :
    Calls Tryz.prog 28 #[ramV (.slice a 0 cap), .int .i64 k0] w fun e w' => e = .returned (.int .i64 k0) ∧ Below w.heap.size w w' := by
  go_enter Tryz.func28, Tryz.ntmps28
  go_wp2_with fail
  refine (markB_empty a cap k0 _).mono ?_
  rintro e w' ⟨rfl, rfl⟩
  go_wp2
  go_ret
  exact ⟨rfl, (Below.refl _ _).alloc (Nat.le_refl _) _⟩

set_option maxRecDepth 100000 in
theorem heldRam_any (a : Option Addr) (n cap k0 : Nat) (w : World) (hb : k0 + n ≤ 9223372036854775806) (h : RowB w a (marksB k0 n)) :
    Calls Tryz.prog 30 #[ramV (.slice a n cap), .int .i64 k0] w fun e w' => e = .returned (.int .i64 (k0 + n : Nat)) ∧ Below w.heap.size w w' := by
  have b1 : Below w.heap.size w (w.alloc (.cells #[.slice a n cap] 30)) := (Below.refl _ _).alloc (Nat.le_refl _) _
  have r1 := h.below b1
  clear h
  have hk : ¬ ((k0 + n : Nat) : Int) < 0 := by omega
  go_enter Tryz.func30, Tryz.ntmps30
  go_wp2_with fail
  refine (heldB_any a n cap k0 _ hb r1).mono ?_
  rintro e w' ⟨rfl, rfl⟩
  go_wp2
  go_ret
  exact ⟨rfl, b1⟩

/-- The byte at an address. -/
def peekL (L : List Nat) (addr : Nat) : Nat := if ramN L.length = true then L.getD (addr % L.length) 0 else 0

theorem idx_rem (addr n : Nat) (hn : 0 < n) : (addr : Int).tmod (n : Int) = ((addr % n : Nat) : Int) := by
  rw [Int.tmod_eq_emod_of_nonneg (by omega)]; omega

set_option maxRecDepth 100000 in
theorem specPeek_any (a : Option Addr) (c addr : Nat) (L : List Nat) (ha : addr < 65536) (w : World) (hr : RowB w a L) :
    Calls Tryz.prog 77 #[ramV (.slice a L.length c), .int .u16 addr] w fun e w' => e = .returned (.int .u8 (peekL L addr)) ∧ Below w.heap.size w w' := by
  have HO := fun w => specOk_any a L.length c w
  cases h : ramN L.length with
  | false =>
    have e : peekL L addr = 0 := by unfold peekL; rw [h]; rfl
    rw [e]
    rw [h] at HO
    clear h e
    go_enter Tryz.func77, Tryz.ntmps77
    go_wp2_with fail
    refine (HO _).mono ?_
    rintro e w1 ⟨rfl, b1⟩
    have b2 := bstep ((Below.refl _ _).alloc (Nat.le_refl _) _) b1
    go_wp2
    go_ret
    exact ⟨rfl, b2⟩
  | true =>
    have hb := ramN_pos h
    obtain ⟨g, o, rfl, hg, hc⟩ := hr.2 (by omega)
    obtain ⟨k, hk⟩ : ∃ k, addr % L.length = k := ⟨_, rfl⟩
    have hkl : k < L.length := by rw [← hk]; exact Nat.mod_lt _ (by omega)
    have e : peekL L addr = L.getD k 0 := by unfold peekL; rw [if_pos h, hk]
    rw [e]
    have hck := hc k hkl
    obtain ⟨x, hx⟩ : ∃ x, L.getD k 0 = x := ⟨_, rfl⟩
    rw [hx] at hck ⊢
    have hx2 : x < 256 := by rw [← hx]; exact hr.1 k hkl
    rw [h] at HO
    have HK := Lib.hid (show (addr : Int).tmod (L.length : Int) = (k : Int) by rw [idx_rem _ _ (by omega), hk])
    have hck2 := (((Below.refl _ _).alloc (Nat.le_refl _) (.cells #[.slice (some ⟨g, o, none⟩) L.length c] 30)).cell (p := ⟨g, o + k, none⟩) hg).trans hck
    unfold u8V at hck2
    have hn0 : ((L.length : Int) == 0) = false := beq_eq_false_iff_ne.2 (by omega)
    have ik : (0 : Int) ≤ (k : Int) ∧ (k : Int) < (L.length : Int) := by omega
    clear h e hc hx hr hk hck
    go_enter Tryz.func77, Tryz.ntmps77
    go_wp2_with fail
    refine (HO _).mono ?_
    rintro e w1 ⟨rfl, b1⟩
    have hs1 : w.heap.size < w1.heap.size := Nat.lt_of_lt_of_le (by simp) b1.size
    have hcb : w1.cell? ⟨w.heap.size, 0, none⟩ = some (.slice (some ⟨g, o, none⟩) L.length c) := (b1.cell (p := ⟨w.heap.size, 0, none⟩) (by simp)).trans (by simp)
    have hcx := (b1.cell (p := ⟨g, o + k, none⟩) (by simp; omega)).trans hck2
    have b2 := bstep ((Below.refl _ _).alloc (Nat.le_refl _) _) b1
    have w1' : IntKind.i64.wrap (addr : Int) = (addr : Int) := IntWalk.i64_in _ (by omega)
    have w2' : (addr : Int).tmod (L.length : Int) = (k : Int) := HK.out
    have w3' : IntKind.i64.wrap (k : Int) = (k : Int) := IntWalk.i64_in _ (by omega)
    clear b1 hck2
    go_wp2_with fail
    go_quiet (fail)
    go_wp2
    go_ret
    exact ⟨rfl, below_drewN b2 _⟩

/-- A box stands as it stood behind a call. -/
theorem boxAt {w w1 : World} {B : Nat} {t : TypeId} {v : Value} (h : Boxed w B t v) (hb : Below w.heap.size w w1) : Boxed w1 B t v := (hb.block B h.lt).trans h

theorem rowCells {w : World} {g o : Nat} {L : List Nat} (h : RowB w (some ⟨g, o, none⟩) L) : ∀ j u, (L.map u8V)[j]? = some u → w.cell? ((⟨g, o, none⟩ : Addr).add j) = some u := by
  intro j u hu
  have hj : j < L.length := by
    rcases Nat.lt_or_ge j L.length with q | q
    · exact q
    · rw [List.getElem?_eq_none (by simpa using q)] at hu; cases hu
  obtain ⟨g', o', e, _, hc⟩ := h.2 (by omega)
  simp only [Option.some.injEq, Addr.mk.injEq, and_true] at e
  obtain ⟨rfl, rfl⟩ := e
  have hadd : (⟨g, o, none⟩ : Addr).add j = ⟨g, o + j, none⟩ := by unfold Addr.add; split <;> simp_all
  rw [hadd, hc j hj]
  rw [List.getElem?_map, List.getElem?_eq_getElem hj] at hu
  simp only [Option.map_some, Option.some.injEq] at hu
  rw [← hu]
  simp [List.getD, hj]

theorem grownB_set (w : World) (B : Nat) (v : Value) : w.grownBy (w.setCell ⟨B, 0, none⟩ v) (some B) := grownBy_setCell' w B v

/-- The memory with a byte put. -/
def pokeL (L : List Nat) (addr b : Nat) : List Nat := if ramN L.length = true then L.set (addr % L.length) b else []

theorem ownB_set {w : World} {base g n cap : Nat} {L : List Nat} {k x : Nat} (h : OwnB w base (.slice (some ⟨g, 0, none⟩) n cap) L) (hn : n = L.length) (hx : x < 256) :
    OwnB (w.setCell ⟨g, k, none⟩ (.int .u8 (x : Int))) base (.slice (some ⟨g, 0, none⟩) n cap) (L.set k x) ∧ w.grownBy (w.setCell ⟨g, k, none⟩ (.int .u8 (x : Int))) (some g) := by
  subst hn
  have hst := World.ownsRow.stored h.2 k (u8V x)
  refine ⟨⟨fun i hi => ?_, ?_⟩, hst.2⟩
  · rw [List.length_set] at hi
    by_cases hij : i = k
    · subst hij; simp only [List.getD, List.getElem?_set_self hi, Option.getD_some]; exact hx
    · simp only [List.getD, List.getElem?_set_ne (Ne.symm hij)]; exact h.1 i hi
  · rw [List.length_set, List.map_set]; exact hst.1

theorem ownB_cell {w : World} {base g n cap : Nat} {L : List Nat} {k : Nat} (h : OwnB w base (.slice (some ⟨g, 0, none⟩) n cap) L) (hk : k < L.length) : w.cell? ⟨g, k, none⟩ = some (.int .u8 (L.getD k 0 : Int)) ∧ w.frozen? ⟨g, k, none⟩ = false := by
  obtain ⟨_, hr⟩ := h.row
  obtain ⟨g', o', hgo, _, hc⟩ := hr.2 (by omega)
  simp only [Option.some.injEq, Addr.mk.injEq, and_true] at hgo
  obtain ⟨rfl, rfl⟩ := hgo
  have hcell := hc k hk
  rw [Nat.zero_add] at hcell
  obtain ⟨rfl, _⟩ := h.row
  exact ⟨hcell, World.ownsRow.frozenAt h.2 k⟩

/-- The memory with a list of bytes filled in, from its place i on. -/
def fillAt (n addr : Nat) : List Nat → Nat → List Nat → List Nat
  | [], _, M => M
  | x :: r, i, M => fillAt n addr r (i + 1) (M.set ((addr + i) % 65536 % n) x)

def fillL (L : List Nat) (addr : Nat) (X : List Nat) : List Nat := if ramN L.length = true ∧ X.length ≤ 1024 then fillAt L.length addr X 0 L else []

theorem fillAt_len (n addr : Nat) : ∀ (X : List Nat) (i : Nat) (M : List Nat), (fillAt n addr X i M).length = M.length
  | [], _, _ => rfl
  | x :: r, i, M => by rw [fillAt, fillAt_len n addr r, List.length_set]

theorem drop_nat (X : List Nat) (j : Nat) (h : j < X.length) : X.drop j = X.getD j 0 :: X.drop (j + 1) := by
  rw [List.drop_eq_getElem_cons h]; simp [List.getD, h]

theorem fillAt_step (n addr : Nat) (X : List Nat) (j : Nat) (M : List Nat) (h : j < X.length) : fillAt n addr (X.drop j) j M = fillAt n addr (X.drop (j + 1)) (j + 1) (M.set ((addr + j) % 65536 % n) (X.getD j 0)) := by
  rw [drop_nat X j h, fillAt]

theorem idx_rem2 (addr j n : Nat) (hn : 0 < n) : (((addr : Int) + (j : Int)).tmod 65536).tmod (n : Int) = (((addr + j) % 65536 % n : Nat) : Int) := by
  rw [show (addr : Int) + (j : Int) = ((addr + j : Nat) : Int) by omega, show (65536 : Int) = ((65536 : Nat) : Int) from rfl, idx_rem (addr + j) 65536 (by omega), idx_rem _ n hn]

set_option maxRecDepth 100000 in
set_option maxHeartbeats 1000000 in
theorem specFill_no (a : Option Addr) (c addr : Nat) (L : List Nat) (ax : Option Addr) (nx cx : Nat) (w : World) (h : ramN L.length = false ∨ 1024 < nx) (hx : nx ≤ maxLen) :
    Calls Tryz.prog 65 #[ramV (.slice a L.length c), .int .u16 addr, .slice ax nx cx] w fun e w' => e = .returned (ramV (.slice none 0 0)) ∧ Below w.heap.size w w' := by
  have HO := fun w => specOk_any a L.length c w
  have hxx : (nx : Int) ≤ 9223372036854775807 := by unfold maxLen at hx; omega
  cases h1 : ramN L.length with
  | false =>
    rw [h1] at HO
    clear h h1
    go_enter Tryz.func65, Tryz.ntmps65
    go_wp2_with fail
    refine (HO _).mono ?_
    rintro e w1 ⟨rfl, b1⟩
    have bx := boxAt (Boxed.new (w.alloc (.cells #[.slice a L.length c] 30)) 30 (.slice none 0 0)) b1
    rw [World.size_alloc] at bx
    have b2 := bstep (((Below.refl _ _).alloc (Nat.le_refl _) _).alloc (by simp) _) b1
    have hcx := bx.cell
    have hfx := bx.frozen
    have hcx2 := (bx.set (.slice none 0 0)).cell
    go_wp2
    exact bodyPost_ret (v := ramV (.slice none 0 0)) (by simp [results, Tryz.results65, go_sem, hcx2]) rfl ⟨rfl, b2.setCell (by simp) _⟩
  | true =>
    have hbig : (1024 : Int) < (nx : Int) := by rcases h with h | h; rw [h1] at h; cases h; omega
    rw [h1] at HO
    clear h h1
    go_enter Tryz.func65, Tryz.ntmps65
    go_wp2_with fail
    refine (HO _).mono ?_
    rintro e w1 ⟨rfl, b1⟩
    have bx := boxAt (Boxed.new (w.alloc (.cells #[.slice a L.length c] 30)) 30 (.slice none 0 0)) b1
    rw [World.size_alloc] at bx
    have b2 := bstep (((Below.refl _ _).alloc (Nat.le_refl _) _).alloc (by simp) _) b1
    have hcx := bx.cell
    have hfx := bx.frozen
    have hcx2 := (bx.set (.slice none 0 0)).cell
    go_wp2
    exact bodyPost_ret (v := ramV (.slice none 0 0)) (by simp [results, Tryz.results65, go_sem, hcx2]) rfl ⟨rfl, b2.setCell (by simp) _⟩

set_option maxRecDepth 100000 in
set_option maxHeartbeats 4000000 in
theorem specFill_yes (a : Option Addr) (c addr : Nat) (L : List Nat) (ax : Option Addr) (cx : Nat) (X : List Nat) (ha : addr < 65536) (w : World) (hr : RowB w a L) (hx : RowB w ax X) (h : ramN L.length = true) (hX : X.length ≤ 1024) :
    Calls Tryz.prog 65 #[ramV (.slice a L.length c), .int .u16 addr, .slice ax X.length cx] w fun e w' => ∃ v, e = .returned (ramV v) ∧ OwnB w' w.heap.size v (fillAt L.length addr X 0 L) ∧ Below w.heap.size w w' := by
  have HO := fun w => specOk_any a L.length c w
  rw [h] at HO
  have hn := ramN_pos h
  have hn0 : ((L.length : Int) == 0) = false := beq_eq_false_iff_ne.2 (by omega)
  have hxl : ¬ (1024 : Int) < (X.length : Int) := by omega
  obtain ⟨g, o, rfl, hg, _⟩ := hr.2 (by omega)
  obtain ⟨i0, hi, hz0, hz1, hz2⟩ := info_parts infoU8
  have HR := Lib.hid hr
  have HX := Lib.hid hx
  clear h hr hx
  go_enter Tryz.func65, Tryz.ntmps65
  go_wp2_with fail
  refine (HO _).mono ?_
  rintro e w1 ⟨rfl, b1⟩
  have bx := boxAt (Boxed.new (w.alloc (.cells #[.slice (some ⟨g, o, none⟩) L.length c] 30)) 30 (.slice none 0 0)) b1
  have bp := boxAt ((Boxed.new w 30 (.slice (some ⟨g, o, none⟩) L.length c)).alloc (.cells #[.slice none 0 0] 30)) b1
  rw [World.size_alloc] at bx
  have b2 := bstep (((Below.refl _ _).alloc (Nat.le_refl _) _).alloc (by simp) _) b1
  have hs1 := b2.size
  have hbx := bx.lt
  clear b1
  have hcp := (bp.alloc (.cells #[] 5)).cell
  have HN := Lib.hid (RowB.below (RowB.below HR.out b2) ((Below.refl _ w1).alloc (Nat.le_refl _) (.cells #[] 5)))
  have hO0 := emptyOwn (base := w1.heap.size) w1 rfl (Nat.le_refl _)
  go_wp2_with (at_builtin; refine wpList_append_own _ rfl _ _ 22 rfl w1.heap.size 5 i0 (.int .u8 0) 1 1 Tryz.underlying22 hi hz0 hz1 hz2 rfl (by decide) _ _ _ rfl hO0 ⟨g, o, none⟩ L.length c (L.map u8V) rfl (by simp) (rowCells HN.out) (u8V_one L) ?c3 ?c4 ?c5 ?_)
  case c3 => unfold maxLen; first | omega | (simp; omega)
  case c4 => first | omega | (simp; omega)
  case c5 => first | omega | (simp; done) | (simp; omega)
  intro v' w4 hown' hgrow _
  have hO4 : OwnB w4 w1.heap.size v' L := ⟨HR.out.1, by simpa using hown'⟩
  obtain ⟨g4, c4, rfl, _⟩ := hO4.cells (by omega)
  have hge := ((World.ownsRow.lt hO4.2) g4 rfl).1
  have bx4 : Boxed w4 (w.heap.size + 1) 30 (.slice none 0 0) := (bx.alloc _).kept hgrow (by simp [Value.ownBlock]; omega)
  have b4 : Below w.heap.size w w4 := (b2.alloc (by omega) _).grown hgrow (by simp; omega) (fun j ej => by simp [Value.ownBlock] at ej; omega)
  have HX4 := Lib.hid (RowB.below HX.out b4)
  have H4 := Lib.hid (And.intro hO4 (And.intro bx4 b4))
  clear hown' hgrow hO4 bx4 bx bp hcp hO0 b2 b4
  go_wp2
  go_loopw [8] (fun i wr => ∃ (j : Nat) (M : List Nat), j ≤ X.length ∧ i = .int .i64 j ∧ Hid (M.length = L.length ∧ OwnB wr w1.heap.size (.slice (some ⟨g4, 0, none⟩) L.length c4) M ∧ Boxed wr (w.heap.size + 1) 30 (.slice none 0 0) ∧ Below w.heap.size w wr ∧ fillAt L.length addr (X.drop j) j M = fillAt L.length addr X 0 L)) (fun i _ => X.length - (intOf i).toNat)
  case atStart => exact ⟨0, L, Nat.zero_le _, rfl, Lib.hid ⟨rfl, H4.out.1, H4.out.2.1, H4.out.2.2, rfl⟩⟩
  case round =>
    obtain ⟨j, M, hj, rfl, HI⟩ := hrel
    by_cases hp : j < X.length
    · obtain ⟨k, hk⟩ : ∃ k, (addr + j) % 65536 % L.length = k := ⟨_, rfl⟩
      have hkl : k < L.length := by rw [← hk]; exact Nat.mod_lt _ (by omega)
      have HK := Lib.hid hk
      have hT := idx_rem2 addr j L.length (by omega)
      rw [hk] at hT
      clear hk
      obtain ⟨hM, hOM, bxM, bM, hF⟩ := HI.out
      obtain ⟨hck, hfk⟩ := ownB_cell hOM (k := k) (by omega)
      obtain ⟨gx, ox, rfl, hgx, hcx⟩ := HX.out.2 (by omega)
      have hcj := (bM.cell (p := ⟨gx, ox + j, none⟩) hgx).trans (hcx j hp)
      obtain ⟨x, hxx⟩ : ∃ x, X.getD j 0 = x := ⟨_, rfl⟩
      obtain ⟨y, hy⟩ : ∃ y, M.getD k 0 = y := ⟨_, rfl⟩
      rw [hxx] at hcj
      rw [hy] at hck
      have hx2 : x < 256 := by rw [← hxx]; exact HX.out.1 j hp
      unfold u8V at hcj
      have HXX := Lib.hid hxx
      have a1 : IntKind.i64.wrap (addr : Int) = (addr : Int) := IntWalk.i64_in _ (by omega)
      have a2 : IntKind.i64.wrap ((addr : Int) + (j : Int)) = (addr : Int) + (j : Int) := IntWalk.i64_in _ (by omega)
      have ij : (0 : Int) ≤ (j : Int) ∧ (j : Int) < (X.length : Int) := by omega
      have ik : (0 : Int) ≤ (k : Int) ∧ (k : Int) < (L.length : Int) := by omega
      have hT1 : ((addr : Int) + (j : Int)).tmod 65536 = (((addr + j) % 65536 : Nat) : Int) := by
        rw [show (addr : Int) + (j : Int) = ((addr + j : Nat) : Int) by omega, show (65536 : Int) = ((65536 : Nat) : Int) from rfl, idx_rem _ _ (by omega)]
      obtain ⟨q, hq⟩ : ∃ q, (addr + j) % 65536 = q := ⟨_, rfl⟩
      have hq2 : q < 65536 := by omega
      rw [hq] at hT1
      rw [hT1] at hT
      have HF := Lib.hid hF
      have HOM := Lib.hid hOM
      clear hxx hy hcx hF hOM hq
      have hn1 : ¬ (L.length : Int) = 0 := by omega
      have hn2 : ¬ L.length = 0 := by omega
      have a3 : IntKind.i64.wrap (k : Int) = (k : Int) := IntWalk.i64_in _ (by omega)
      have a4 : IntKind.i64.wrap (q : Int) = (q : Int) := IntWalk.i64_in _ (by omega)
      go_wp2_with fail
      go_still_tail 14, (by kernel_rfl)
      change wpList _ _ _ _ _ wr.drew
      have hck' : wr.drew.cell? ⟨g4, k, none⟩ = some (.int .u8 (y : Int)) := hck
      have hfk' : wr.drew.frozen? ⟨g4, k, none⟩ = false := hfk
      have HOM' : Hid (OwnB wr.drew w1.heap.size (.slice (some ⟨g4, 0, none⟩) L.length c4) M) := Lib.hid HOM.out
      have bxM' : Boxed wr.drew (w.heap.size + 1) 30 (.slice none 0 0) := bxM
      have bM' := bM.drew
      clear hck hfk HOM bxM bM hcj HI
      generalize wr.drew = w5 at hck' hfk' HOM' bxM' bM' ⊢
      obtain ⟨hO5, hg5⟩ := ownB_set (k := k) HOM'.out hM.symm hx2
      have HO5 := Lib.hid hO5
      have HG5 := Lib.hid hg5
      clear hO5 hg5 HOM'
      go_wp2
      go_roundw
      case rel =>
        refine ⟨j + 1, M.set k x, by omega, by go_num, Lib.hid ⟨by rw [List.length_set]; exact hM, HO5.out, bxM'.kept HG5.out (by simp; omega), bM'.setCell (by show w.heap.size ≤ g4; omega) _, ?_⟩⟩
        rw [← HF.out, fillAt_step _ _ _ _ _ hp, HK.out, HXX.out]
      case measure => simp [intOf]; omega
    · obtain rfl : j = X.length := by omega
      obtain ⟨hM, hOM, bxM, bM, hF⟩ := HI.out
      have hcx := bxM.cell
      have hfx := bxM.frozen
      have hcx2 := (bxM.set (.slice (some ⟨g4, 0, none⟩) L.length c4)).cell
      have HOM := Lib.hid hOM
      have HF := Lib.hid hF
      clear hOM hF
      go_wp2
      refine bodyPost_ret (v := ramV (.slice (some ⟨g4, 0, none⟩) L.length c4)) (by simp [results, Tryz.results65, go_sem, hcx2]) rfl ⟨_, rfl, ownB_ne (OwnB.base (b' := w.heap.size) ?_ (by omega)) (grownB_set _ _ _) (fun q hq => by simp [Value.ownBlock] at hq; omega), bM.setCell (by simp) _⟩
      have := HF.out
      rw [List.drop_length, fillAt] at this
      rw [← this]
      exact HOM.out

theorem specFill_any (a : Option Addr) (c addr : Nat) (L : List Nat) (ax : Option Addr) (cx : Nat) (X : List Nat) (ha : addr < 65536) (w : World) (hr : RowB w a L) (hx : RowB w ax X) (hX : X.length ≤ maxLen) :
    Calls Tryz.prog 65 #[ramV (.slice a L.length c), .int .u16 addr, .slice ax X.length cx] w fun e w' => ∃ v, e = .returned (ramV v) ∧ OwnB w' w.heap.size v (fillL L addr X) ∧ Below w.heap.size w w' := by
  by_cases h : ramN L.length = true ∧ X.length ≤ 1024
  · have e : fillL L addr X = fillAt L.length addr X 0 L := if_pos h
    rw [e]
    exact specFill_yes a c addr L ax cx X ha w hr hx h.1 h.2
  · have e : fillL L addr X = [] := if_neg h
    rw [e]
    refine (specFill_no a c addr L ax X.length cx w (by
      cases hn : ramN L.length with
      | false => exact .inl rfl
      | true => exact .inr (by rw [hn] at h; simp at h; exact h)) hX).mono ?_
    rintro e w' ⟨rfl, hb⟩
    exact ⟨_, rfl, ownNil _ _, hb⟩

end Go.Proofs.YtblchdmemhhcbaaGreat
