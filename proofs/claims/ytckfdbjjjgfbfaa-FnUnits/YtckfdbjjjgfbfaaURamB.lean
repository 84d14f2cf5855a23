/-
  Memories: contracts over the law's own helpers (alike, marked, held), and over the model's Peek, Poke and Fill.
-/
import Derived.Test.YtckfdbjjjgfbfaaURamA
import Derived.Deep.QuietTactic
import Derived.BigQuiet
namespace Go.Proofs.Ytckfdbjjjgfbfaa
set_option linter.unusedVariables false
set_option linter.unusedSimpArgs false
open Go.RowKit

/-- The byte at an address. -/
def peekL (L : List Nat) (addr : Nat) : Nat := if ramN L.length = true then L.getD (addr % L.length) 0 else 0

theorem idx_rem (addr n : Nat) (hn : 0 < n) : (addr : Int).tmod (n : Int) = ((addr % n : Nat) : Int) := by
  rw [Int.tmod_eq_emod_of_nonneg (by omega)]; omega

set_option maxRecDepth 100000 in
theorem specPeek_any (a : Option Addr) (c addr : Nat) (L : List Nat) (ha : addr < 65536) (w : World) (hr : RowB w a L) :
    Calls Try.prog 27 #[ramV (.slice a L.length c), .int .u16 addr] w fun e w' => e = .returned (.int .u8 (peekL L addr)) ∧ Below w.heap.size w w' := by
  have HO := fun w => specOk_any a L.length c w
  cases h : ramN L.length with
  | false =>
    have e : peekL L addr = 0 := by unfold peekL; rw [h]; rfl
    rw [e]
    rw [h] at HO
    clear h e
    go_enter Try.func27, Try.ntmps27
    go_wp2_with fail
    refine (HO _).mono ?_
    rintro e w1 ⟨rfl, b1⟩
    have b2 := bstep ((Below.refl _ _).alloc (Nat.le_refl _) _) b1
    go_wp2
    go_ret
    exact ⟨rfl, b2⟩
  | true =>
    have hb := ramN_pos h
    obtain ⟨g, o, rfl, hg, hc⟩ := hr.2 (by omega)
    obtain ⟨k, hk⟩ : ∃ k, addr % L.length = k := ⟨_, rfl⟩
    have hkl : k < L.length := by rw [← hk]; exact Nat.mod_lt _ (by omega)
    have e : peekL L addr = L.getD k 0 := by unfold peekL; rw [if_pos h, hk]
    rw [e]
    have hck := hc k hkl
    obtain ⟨x, hx⟩ : ∃ x, L.getD k 0 = x := ⟨_, rfl⟩
    rw [hx] at hck ⊢
    have hx2 : x < 256 := by rw [← hx]; exact hr.1 k hkl
    rw [h] at HO
    have HK := Lib.hid (show (addr : Int).tmod (L.length : Int) = (k : Int) by rw [idx_rem _ _ (by omega), hk])
    have hck2 := (((Below.refl _ _).alloc (Nat.le_refl _) (.cells #[.slice (some ⟨g, o, none⟩) L.length c] 30)).cell (p := ⟨g, o + k, none⟩) hg).trans hck
    unfold u8V at hck2
    have hn0 : ((L.length : Int) == 0) = false := beq_eq_false_iff_ne.2 (by omega)
    have ik : (0 : Int) ≤ (k : Int) ∧ (k : Int) < (L.length : Int) := by omega
    clear h e hc hx hr hk hck
    go_enter Try.func27, Try.ntmps27
    go_wp2_with fail
    refine (HO _).mono ?_
    rintro e w1 ⟨rfl, b1⟩
    have hs1 : w.heap.size < w1.heap.size := Nat.lt_of_lt_of_le (by simp) b1.size
    have hcb : w1.cell? ⟨w.heap.size, 0, none⟩ = some (.slice (some ⟨g, o, none⟩) L.length c) := (b1.cell (p := ⟨w.heap.size, 0, none⟩) (by simp)).trans (by simp)
    have hcx := (b1.cell (p := ⟨g, o + k, none⟩) (by simp; omega)).trans hck2
    have b2 := bstep ((Below.refl _ _).alloc (Nat.le_refl _) _) b1
    have w1' : IntKind.i64.wrap (addr : Int) = (addr : Int) := IntWalk.i64_in _ (by omega)
    have w2' : (addr : Int).tmod (L.length : Int) = (k : Int) := HK.out
    have w3' : IntKind.i64.wrap (k : Int) = (k : Int) := IntWalk.i64_in _ (by omega)
    clear b1 hck2
    go_wp2_with fail
    go_quiet (fail)
    go_wp2
    go_ret
    exact ⟨rfl, below_drewN b2 _⟩

/-- A box stands as it stood behind a call. -/
theorem boxAt {w w1 : World} {B : Nat} {t : TypeId} {v : Value} (h : Boxed w B t v) (hb : Below w.heap.size w w1) : Boxed w1 B t v := (hb.block B h.lt).trans h

theorem rowCells {w : World} {g o : Nat} {L : List Nat} (h : RowB w (some ⟨g, o, none⟩) L) : ∀ j u, (L.map u8V)[j]? = some u → w.cell? ((⟨g, o, none⟩ : Addr).add j) = some u := by
  intro j u hu
  have hj : j < L.length := by
    rcases Nat.lt_or_ge j L.length with q | q
    · exact q
    · rw [List.getElem?_eq_none (by simpa using q)] at hu; cases hu
  obtain ⟨g', o', e, _, hc⟩ := h.2 (by omega)
  simp only [Option.some.injEq, Addr.mk.injEq, and_true] at e
  obtain ⟨rfl, rfl⟩ := e
  have hadd : (⟨g, o, none⟩ : Addr).add j = ⟨g, o + j, none⟩ := by unfold Addr.add; split <;> simp_all
  rw [hadd, hc j hj]
  rw [List.getElem?_map, List.getElem?_eq_getElem hj] at hu
  simp only [Option.map_some, Option.some.injEq] at hu
  rw [← hu]
  simp [List.getD, hj]

theorem grownB_set (w : World) (B : Nat) (v : Value) : w.grownBy (w.setCell ⟨B, 0, none⟩ v) (some B) := grownBy_setCell' w B v

theorem ownB_set {w : World} {base g n cap : Nat} {L : List Nat} {k x : Nat} (h : OwnB w base (.slice (some ⟨g, 0, none⟩) n cap) L) (hn : n = L.length) (hx : x < 256) :
    OwnB (w.setCell ⟨g, k, none⟩ (.int .u8 (x : Int))) base (.slice (some ⟨g, 0, none⟩) n cap) (L.set k x) ∧ w.grownBy (w.setCell ⟨g, k, none⟩ (.int .u8 (x : Int))) (some g) := by
  subst hn
  have hst := World.ownsRow.stored h.2 k (u8V x)
  refine ⟨⟨fun i hi => ?_, ?_⟩, hst.2⟩
  · rw [List.length_set] at hi
    by_cases hij : i = k
    · subst hij; simp only [List.getD, List.getElem?_set_self hi, Option.getD_some]; exact hx
    · simp only [List.getD, List.getElem?_set_ne (Ne.symm hij)]; exact h.1 i hi
  · rw [List.length_set, List.map_set]; exact hst.1

theorem ownB_cell {w : World} {base g n cap : Nat} {L : List Nat} {k : Nat} (h : OwnB w base (.slice (some ⟨g, 0, none⟩) n cap) L) (hk : k < L.length) : w.cell? ⟨g, k, none⟩ = some (.int .u8 (L.getD k 0 : Int)) ∧ w.frozen? ⟨g, k, none⟩ = false := by
  obtain ⟨_, hr⟩ := h.row
  obtain ⟨g', o', hgo, _, hc⟩ := hr.2 (by omega)
  simp only [Option.some.injEq, Addr.mk.injEq, and_true] at hgo
  obtain ⟨rfl, rfl⟩ := hgo
  have hcell := hc k hk
  rw [Nat.zero_add] at hcell
  obtain ⟨rfl, _⟩ := h.row
  exact ⟨hcell, World.ownsRow.frozenAt h.2 k⟩

/-- The memory with a list of bytes filled in, from its place i on. -/
def fillAt (n addr : Nat) : List Nat → Nat → List Nat → List Nat
  | [], _, M => M
  | x :: r, i, M => fillAt n addr r (i + 1) (M.set ((addr + i) % 65536 % n) x)

def fillL (L : List Nat) (addr : Nat) (X : List Nat) : List Nat := if ramN L.length = true ∧ X.length ≤ 1024 then fillAt L.length addr X 0 L else []

theorem fillAt_len (n addr : Nat) : ∀ (X : List Nat) (i : Nat) (M : List Nat), (fillAt n addr X i M).length = M.length
  | [], _, _ => rfl
  | x :: r, i, M => by rw [fillAt, fillAt_len n addr r, List.length_set]

theorem drop_nat (X : List Nat) (j : Nat) (h : j < X.length) : X.drop j = X.getD j 0 :: X.drop (j + 1) := by
  rw [List.drop_eq_getElem_cons h]; simp [List.getD, h]

theorem fillAt_step (n addr : Nat) (X : List Nat) (j : Nat) (M : List Nat) (h : j < X.length) : fillAt n addr (X.drop j) j M = fillAt n addr (X.drop (j + 1)) (j + 1) (M.set ((addr + j) % 65536 % n) (X.getD j 0)) := by
  rw [drop_nat X j h, fillAt]

theorem idx_rem2 (addr j n : Nat) (hn : 0 < n) : (((addr : Int) + (j : Int)).tmod 65536).tmod (n : Int) = (((addr + j) % 65536 % n : Nat) : Int) := by
  rw [show (addr : Int) + (j : Int) = ((addr + j : Nat) : Int) by omega, show (65536 : Int) = ((65536 : Nat) : Int) from rfl, idx_rem (addr + j) 65536 (by omega), idx_rem _ n hn]

set_option maxRecDepth 100000 in
set_option maxHeartbeats 1000000 in
theorem specFill_no (a : Option Addr) (c addr : Nat) (L : List Nat) (ax : Option Addr) (nx cx : Nat) (w : World) (h : ramN L.length = false ∨ 1024 < nx) (hx : nx ≤ maxLen) :
    Calls Try.prog 50 #[ramV (.slice a L.length c), .int .u16 addr, .slice ax nx cx] w fun e w' => e = .returned (ramV (.slice none 0 0)) ∧ Below w.heap.size w w' := by
  have HO := fun w => specOk_any a L.length c w
  have hxx : (nx : Int) ≤ 9223372036854775807 := by unfold maxLen at hx; omega
  cases h1 : ramN L.length with
  | false =>
    rw [h1] at HO
    clear h h1
    go_enter Try.func50, Try.ntmps50
    go_wp2_with fail
    refine (HO _).mono ?_
    rintro e w1 ⟨rfl, b1⟩
    have bx := boxAt (Boxed.new (w.alloc (.cells #[.slice a L.length c] 30)) 30 (.slice none 0 0)) b1
    rw [World.size_alloc] at bx
    have b2 := bstep (((Below.refl _ _).alloc (Nat.le_refl _) _).alloc (by simp) _) b1
    have hcx := bx.cell
    have hfx := bx.frozen
    have hcx2 := (bx.set (.slice none 0 0)).cell
    go_wp2
    exact bodyPost_ret (v := ramV (.slice none 0 0)) (by simp [results, Try.results50, go_sem, hcx2]) rfl ⟨rfl, b2.setCell (by simp) _⟩
  | true =>
    have hbig : (1024 : Int) < (nx : Int) := by rcases h with h | h; rw [h1] at h; cases h; omega
    rw [h1] at HO
    clear h h1
    go_enter Try.func50, Try.ntmps50
    go_wp2_with fail
    refine (HO _).mono ?_
    rintro e w1 ⟨rfl, b1⟩
    have bx := boxAt (Boxed.new (w.alloc (.cells #[.slice a L.length c] 30)) 30 (.slice none 0 0)) b1
    rw [World.size_alloc] at bx
    have b2 := bstep (((Below.refl _ _).alloc (Nat.le_refl _) _).alloc (by simp) _) b1
    have hcx := bx.cell
    have hfx := bx.frozen
    have hcx2 := (bx.set (.slice none 0 0)).cell
    go_wp2
    exact bodyPost_ret (v := ramV (.slice none 0 0)) (by simp [results, Try.results50, go_sem, hcx2]) rfl ⟨rfl, b2.setCell (by simp) _⟩

set_option maxRecDepth 100000 in
set_option maxHeartbeats 4000000 in
theorem specFill_yes (a : Option Addr) (c addr : Nat) (L : List Nat) (ax : Option Addr) (cx : Nat) (X : List Nat) (ha : addr < 65536) (w : World) (hr : RowB w a L) (hx : RowB w ax X) (h : ramN L.length = true) (hX : X.length ≤ 1024) :
    Calls Try.prog 50 #[ramV (.slice a L.length c), .int .u16 addr, .slice ax X.length cx] w fun e w' => ∃ v, e = .returned (ramV v) ∧ OwnB w' w.heap.size v (fillAt L.length addr X 0 L) ∧ Below w.heap.size w w' := by
  have HO := fun w => specOk_any a L.length c w
  rw [h] at HO
  have hn := ramN_pos h
  have hn0 : ((L.length : Int) == 0) = false := beq_eq_false_iff_ne.2 (by omega)
  have hxl : ¬ (1024 : Int) < (X.length : Int) := by omega
  obtain ⟨g, o, rfl, hg, _⟩ := hr.2 (by omega)
  obtain ⟨i0, hi, hz0, hz1, hz2⟩ := info_parts infoU8
  have HR := Lib.hid hr
  have HX := Lib.hid hx
  clear h hr hx
  go_enter Try.func50, Try.ntmps50
  go_wp2_with fail
  refine (HO _).mono ?_
  rintro e w1 ⟨rfl, b1⟩
  have bx := boxAt (Boxed.new (w.alloc (.cells #[.slice (some ⟨g, o, none⟩) L.length c] 30)) 30 (.slice none 0 0)) b1
  have bp := boxAt ((Boxed.new w 30 (.slice (some ⟨g, o, none⟩) L.length c)).alloc (.cells #[.slice none 0 0] 30)) b1
  rw [World.size_alloc] at bx
  have b2 := bstep (((Below.refl _ _).alloc (Nat.le_refl _) _).alloc (by simp) _) b1
  have hs1 := b2.size
  have hbx := bx.lt
  clear b1
  have hcp := (bp.alloc (.cells #[] 5)).cell
  have HN := Lib.hid (RowB.below (RowB.below HR.out b2) ((Below.refl _ w1).alloc (Nat.le_refl _) (.cells #[] 5)))
  have hO0 := emptyOwn (base := w1.heap.size) w1 rfl (Nat.le_refl _)
  go_wp2_with (at_builtin; refine wpList_append_own _ rfl _ _ 22 rfl w1.heap.size 5 i0 (.int .u8 0) 1 1 Try.underlying22 hi hz0 hz1 hz2 rfl (by decide) _ _ _ rfl hO0 ⟨g, o, none⟩ L.length c (L.map u8V) rfl (by simp) (rowCells HN.out) (u8V_one L) ?c3 ?c4 ?c5 ?_)
  case c3 => unfold maxLen; first | omega | (simp; omega)
  case c4 => first | omega | (simp; omega)
  case c5 => first | omega | (simp; done) | (simp; omega)
  intro v' w4 hown' hgrow _
  have hO4 : OwnB w4 w1.heap.size v' L := ⟨HR.out.1, by simpa using hown'⟩
  obtain ⟨g4, c4, rfl, _⟩ := hO4.cells (by omega)
  have hge := ((World.ownsRow.lt hO4.2) g4 rfl).1
  have bx4 : Boxed w4 (w.heap.size + 1) 30 (.slice none 0 0) := (bx.alloc _).kept hgrow (by simp [Value.ownBlock]; omega)
  have b4 : Below w.heap.size w w4 := (b2.alloc (by omega) _).grown hgrow (by simp; omega) (fun j ej => by simp [Value.ownBlock] at ej; omega)
  have HX4 := Lib.hid (RowB.below HX.out b4)
  have H4 := Lib.hid (And.intro hO4 (And.intro bx4 b4))
  clear hown' hgrow hO4 bx4 bx bp hcp hO0 b2 b4
  go_wp2
  go_loopw [8] (fun i wr => ∃ (j : Nat) (M : List Nat), j ≤ X.length ∧ i = .int .i64 j ∧ Hid (M.length = L.length ∧ OwnB wr w1.heap.size (.slice (some ⟨g4, 0, none⟩) L.length c4) M ∧ Boxed wr (w.heap.size + 1) 30 (.slice none 0 0) ∧ Below w.heap.size w wr ∧ fillAt L.length addr (X.drop j) j M = fillAt L.length addr X 0 L)) (fun i _ => X.length - (intOf i).toNat)
  case atStart => exact ⟨0, L, Nat.zero_le _, rfl, Lib.hid ⟨rfl, H4.out.1, H4.out.2.1, H4.out.2.2, rfl⟩⟩
  case round =>
    obtain ⟨j, M, hj, rfl, HI⟩ := hrel
    by_cases hp : j < X.length
    · obtain ⟨k, hk⟩ : ∃ k, (addr + j) % 65536 % L.length = k := ⟨_, rfl⟩
      have hkl : k < L.length := by rw [← hk]; exact Nat.mod_lt _ (by omega)
      have HK := Lib.hid hk
      have hT := idx_rem2 addr j L.length (by omega)
      rw [hk] at hT
      clear hk
      obtain ⟨hM, hOM, bxM, bM, hF⟩ := HI.out
      obtain ⟨hck, hfk⟩ := ownB_cell hOM (k := k) (by omega)
      obtain ⟨gx, ox, rfl, hgx, hcx⟩ := HX.out.2 (by omega)
      have hcj := (bM.cell (p := ⟨gx, ox + j, none⟩) hgx).trans (hcx j hp)
      obtain ⟨x, hxx⟩ : ∃ x, X.getD j 0 = x := ⟨_, rfl⟩
      obtain ⟨y, hy⟩ : ∃ y, M.getD k 0 = y := ⟨_, rfl⟩
      rw [hxx] at hcj
      rw [hy] at hck
      have hx2 : x < 256 := by rw [← hxx]; exact HX.out.1 j hp
      unfold u8V at hcj
      have HXX := Lib.hid hxx
      have a1 : IntKind.i64.wrap (addr : Int) = (addr : Int) := IntWalk.i64_in _ (by omega)
      have a2 : IntKind.i64.wrap ((addr : Int) + (j : Int)) = (addr : Int) + (j : Int) := IntWalk.i64_in _ (by omega)
      have ij : (0 : Int) ≤ (j : Int) ∧ (j : Int) < (X.length : Int) := by omega
      have ik : (0 : Int) ≤ (k : Int) ∧ (k : Int) < (L.length : Int) := by omega
      have hT1 : ((addr : Int) + (j : Int)).tmod 65536 = (((addr + j) % 65536 : Nat) : Int) := by
        rw [show (addr : Int) + (j : Int) = ((addr + j : Nat) : Int) by omega, show (65536 : Int) = ((65536 : Nat) : Int) from rfl, idx_rem _ _ (by omega)]
      obtain ⟨q, hq⟩ : ∃ q, (addr + j) % 65536 = q := ⟨_, rfl⟩
      have hq2 : q < 65536 := by omega
      rw [hq] at hT1
      rw [hT1] at hT
      have HF := Lib.hid hF
      have HOM := Lib.hid hOM
      clear hxx hy hcx hF hOM hq
      have hn1 : ¬ (L.length : Int) = 0 := by omega
      have hn2 : ¬ L.length = 0 := by omega
      have a3 : IntKind.i64.wrap (k : Int) = (k : Int) := IntWalk.i64_in _ (by omega)
      have a4 : IntKind.i64.wrap (q : Int) = (q : Int) := IntWalk.i64_in _ (by omega)
      go_wp2_with fail
      go_still_tail 14, (by kernel_rfl)
      change wpList _ _ _ _ _ wr.drew
      have hck' : wr.drew.cell? ⟨g4, k, none⟩ = some (.int .u8 (y : Int)) := hck
      have hfk' : wr.drew.frozen? ⟨g4, k, none⟩ = false := hfk
      have HOM' : Hid (OwnB wr.drew w1.heap.size (.slice (some ⟨g4, 0, none⟩) L.length c4) M) := Lib.hid HOM.out
      have bxM' : Boxed wr.drew (w.heap.size + 1) 30 (.slice none 0 0) := bxM
      have bM' := bM.drew
      clear hck hfk HOM bxM bM hcj HI
      generalize wr.drew = w5 at hck' hfk' HOM' bxM' bM' ⊢
      obtain ⟨hO5, hg5⟩ := ownB_set (k := k) HOM'.out hM.symm hx2
      have HO5 := Lib.hid hO5
      have HG5 := Lib.hid hg5
      clear hO5 hg5 HOM'
      go_wp2
      go_roundw
      case rel =>
        refine ⟨j + 1, M.set k x, by omega, by go_num, Lib.hid ⟨by rw [List.length_set]; exact hM, HO5.out, bxM'.kept HG5.out (by simp; omega), bM'.setCell (by show w.heap.size ≤ g4; omega) _, ?_⟩⟩
        rw [← HF.out, fillAt_step _ _ _ _ _ hp, HK.out, HXX.out]
      case measure => simp [intOf]; omega
    · obtain rfl : j = X.length := by omega
      obtain ⟨hM, hOM, bxM, bM, hF⟩ := HI.out
      have hcx := bxM.cell
      have hfx := bxM.frozen
      have hcx2 := (bxM.set (.slice (some ⟨g4, 0, none⟩) L.length c4)).cell
      have HOM := Lib.hid hOM
      have HF := Lib.hid hF
      clear hOM hF
      go_wp2
      refine bodyPost_ret (v := ramV (.slice (some ⟨g4, 0, none⟩) L.length c4)) (by simp [results, Try.results50, go_sem, hcx2]) rfl ⟨_, rfl, ownB_ne (OwnB.base (b' := w.heap.size) ?_ (by omega)) (grownB_set _ _ _) (fun q hq => by simp [Value.ownBlock] at hq; omega), bM.setCell (by simp) _⟩
      have := HF.out
      rw [List.drop_length, fillAt] at this
      rw [← this]
      exact HOM.out

theorem specFill_any (a : Option Addr) (c addr : Nat) (L : List Nat) (ax : Option Addr) (cx : Nat) (X : List Nat) (ha : addr < 65536) (w : World) (hr : RowB w a L) (hx : RowB w ax X) (hX : X.length ≤ maxLen) :
    Calls Try.prog 50 #[ramV (.slice a L.length c), .int .u16 addr, .slice ax X.length cx] w fun e w' => ∃ v, e = .returned (ramV v) ∧ OwnB w' w.heap.size v (fillL L addr X) ∧ Below w.heap.size w w' := by
  by_cases h : ramN L.length = true ∧ X.length ≤ 1024
  · have e : fillL L addr X = fillAt L.length addr X 0 L := if_pos h
    rw [e]
    exact specFill_yes a c addr L ax cx X ha w hr hx h.1 h.2
  · have e : fillL L addr X = [] := if_neg h
    rw [e]
    refine (specFill_no a c addr L ax X.length cx w (by
      cases hn : ramN L.length with
      | false => exact .inl rfl
      | true => exact .inr (by rw [hn] at h; simp at h; exact h)) hX).mono ?_
    rintro e w' ⟨rfl, hb⟩
    exact ⟨_, rfl, ownNil _ _, hb⟩

end Go.Proofs.Ytckfdbjjjgfbfaa
