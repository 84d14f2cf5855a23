/-
  Contracts over the program: operations that are drawn: l03Code, l04Bytes, l04Pc, and what DrawShowOp, DrawListing and DrawReadOp tell: some bytes, or a text, and some address.
-/
import Derived.Test.YtckfdbjjjgfbfaaUCut
import Derived.Test.YtckfdbjjjgfbfaaUAluNum
import Derived.Test.YtckfdbjjjgfbfaaUSpan
import Derived.Deep.RegionHeld3
import Derived.Laws.Pointers
import Derived.RangeFuncBox
namespace Go.Proofs.Ytckfdbjjjgfbfaa
set_option linter.unusedVariables false
set_option linter.unusedSimpArgs false
open Go.RowKit

/-- An operation's byte that is drawn: whichever it is. -/
def DrewCode (n₀ B : Nat) (a : Option Addr) (len cap : Nat) (z : List Int) (w : World) (e : Ending) (w' : World) : Prop :=
  ∃ (x : Nat) (s : Nat × Int), x < 256 ∧ e = .returned (.int .u8 x) ∧ Drawn n₀ B a len cap z s w' ∧ w.grownBy w' (some B)

theorem byteNat (z : List Int) (len : Nat) (s : Nat × Int) : ∃ x : Nat, x < 256 ∧ byteV z len s = x := by
  obtain ⟨h0, h1⟩ := byteX_bound z len s.1 s.2
  exact ⟨(byteX z len s.1 s.2).toNat, by omega, by unfold byteV; omega⟩

set_option maxRecDepth 100000 in
theorem code_drawn (n₀ B : Nat) (a : Option Addr) (len cap : Nat) (z : List Int) (s : Nat × Int) (w : World) (h : Drawn n₀ B a len cap z s w) :
    Calls Try.prog 66 #[.pointer (some ⟨B, 0, none⟩)] w (DrewCode n₀ B a len cap z w) := by
  obtain ⟨x, hx, hxv⟩ := byteNat z len s
  have HXV := Lib.hid hxv
  clear hxv
  go_enter Try.func66, Try.ntmps66
  go_wp2_with fail
  refine (byte_drawn n₀ B a len cap z s _ h).mono ?_
  rintro e w1 ⟨rfl, hd1, hg1⟩
  rw [HXV.out]
  clear h
  go_wp2
  go_loopw [3, 4] (fun bb i wr => ∃ (y j : Nat) (s' : Nat × Int), j ≤ 3 ∧ y < 256 ∧ bb = .int .u8 y ∧ i = .int .i64 j ∧ Drawn n₀ B a len cap z s' wr ∧ w.grownBy wr (some B)) (fun _ i _ => 3 - (intOf i).toNat)
  case atStart => exact ⟨x, 0, _, by omega, hx, rfl, rfl, hd1, hg1⟩
  case round =>
    obtain ⟨y, j, s', hj, hy, rfl, rfl, hd, hg⟩ := hrel
    by_cases hp : j < 3
    · cases hE : (opName y).toList.isEmpty with
      | true =>
        obtain ⟨x', hx', hxv'⟩ := byteNat z len s'
        have HXV' := Lib.hid hxv'
        clear hxv'
        go_wp2_with fail
        refine (specName_any y hy _).mono ?_
        rintro e w2 ⟨rfl, b2⟩
        have hd2 := hd.below b2
        go_wp2_with fail
        refine (byte_drawn n₀ B a len cap z s' _ hd2).mono ?_
        rintro e w3 ⟨rfl, hd3, hg3⟩
        rw [HXV'.out]
        go_wp2
        go_roundw
        case rel => exact ⟨x', j + 1, _, by omega, hx', rfl, by go_num, hd3, grown_trans (grown_trans hg (grown_of_below b2)) hg3⟩
        case measure => simp [intOf]; omega
      | false =>
        go_wp2_with fail
        refine (specName_any y hy _).mono ?_
        rintro e w2 ⟨rfl, b2⟩
        go_wp2
        go_ret
        exact ⟨y, s', hy, rfl, hd.below b2, grown_trans hg (grown_of_below b2)⟩
    · go_wp2
      go_ret
      exact ⟨y, s', hy, rfl, hd, hg⟩

theorem OwnB.grown {w w' : World} {base B : Nat} {v : Value} {L : List Nat} (h : OwnB w base v L) (hg : w.grownBy w' (some B)) (hB : B < base) : OwnB w' base v L := by
  refine ⟨h.1, World.ownsRow.kept h.2 hg ?_⟩
  cases hv : v.ownBlock with
  | none => exact .inl rfl
  | some g =>
    refine .inr ?_
    have := (World.ownsRow.lt h.2) g hv
    intro e
    simp at e
    omega

theorem grown_own {w w1 w2 : World} {B : Nat} {row : Option Nat} (h : w.grownBy w1 (some B)) (hg : w1.grownBy w2 row) (hr : ∀ k, row = some k → w.heap.size ≤ k) : w.grownBy w2 (some B) :=
  ⟨hg.os.trans h.os, hg.tape.trans h.tape, hg.output.trans h.output, Nat.le_trans h.size hg.size, fun i hi hn => (hg.block i (Nat.lt_of_lt_of_le hi h.size) (fun e => by have := hr i e.symm; omega)).trans (h.block i hi hn)⟩

theorem Drawn.grown {n₀ B : Nat} {a : Option Addr} {len cap : Nat} {z : List Int} {s : Nat × Int} {w w' : World} {row : Option Nat} (h : Drawn n₀ B a len cap z s w) (hg : w.grownBy w' row) (hr : ∀ k, row = some k → B < k) : Drawn n₀ B a len cap z s w' := by
  have hlt := h.lt
  have hn := h.2.2
  refine ⟨h.1.kept ⟨hg.os, hg.tape, hg.output, hg.size, fun i hi => hg.block i (by omega) (fun e => by have := hr i e.symm; omega)⟩, ?_, hn⟩
  exact (hg.block B hlt (fun e => by have := hr B e.symm; omega)).trans h.2.1

def DrewBytesN (n₀ B : Nat) (a : Option Addr) (len cap : Nat) (z : List Int) (n m : Nat) (w : World) (e : Ending) (w' : World) : Prop :=
  ∃ (v : Value) (L : List Nat) (s : Nat × Int), (L.length ≤ m ∧ n ≤ L.length) ∧ e = .returned v ∧ OwnB w' w.heap.size v L ∧ Drawn n₀ B a len cap z s w' ∧ w.grownBy w' (some B)

theorem app_one {L : List Nat} {x : Nat} (h : ∀ i, i < L.length → L.getD i 0 < 256) (hx : x < 256) : ∀ i, i < (L ++ [x]).length → (L ++ [x]).getD i 0 < 256 := by
  intro i hi
  rw [List.getD]
  by_cases hl : i < L.length
  · rw [List.getElem?_append_left hl]; exact h i hl
  · rw [List.length_append] at hi
    simp only [List.length_cons, List.length_nil] at hi
    obtain rfl : i = L.length := by omega
    simpa using hx

set_option maxRecDepth 100000 in
set_option maxHeartbeats 1600000 in
theorem bytes_drawn2 (n₀ B : Nat) (a : Option Addr) (len cap : Nat) (z : List Int) (s : Nat × Int) (n : Nat) (hn : n ≤ 1000) (w : World) (h : Drawn n₀ B a len cap z s w) :
    Calls Try.prog 62 #[.pointer (some ⟨B, 0, none⟩), .int .i64 n] w (DrewBytesN n₀ B a len cap z n (3 * n) w) := by
  obtain ⟨i0, hi, hz0, hz1, hz2⟩ := info_parts infoU8
  have hBw := h.lt
  go_enter Try.func62, Try.ntmps62
  go_wp2
  go_loopw [5, 6] (fun out i wr => ∃ (j : Nat) (L : List Nat) (s' : Nat × Int), j ≤ n ∧ (L.length ≤ 3 * j ∧ j ≤ L.length) ∧ i = .int .i64 j ∧ OwnB wr w.heap.size out L ∧ Drawn n₀ B a len cap z s' wr ∧ w.grownBy wr (some B)) (fun _ i _ => n - (intOf i).toNat)
  case atStart => exact ⟨0, [], s, Nat.zero_le _, by simp, rfl, ⟨fun i hi => by simp at hi, World.ownsRow_made w #[] 0 (Nat.le_refl _) (by decide) rfl⟩, h.alloc _, World.grownBy_alloc w _ (some B)⟩
  case round =>
    obtain ⟨j, L, s', hj, hL, rfl, hO, hd, hg⟩ := hrel
    by_cases hp : j < n
    · go_wp2_with fail
      refine (code_drawn n₀ B a len cap z s' _ hd).mono ?_
      rintro e w1 ⟨x, s1, hx, rfl, hd1, hg1⟩
      have hO1 := hO.grown hg1 hBw
      have hG1 := grown_trans hg hg1
      have hsz1 := hG1.size
      clear hO hd hg hg1
      go_wp2_with (at_builtin; refine wpList_append_own _ rfl _ _ 22 rfl w.heap.size 5 i0 (.int .u8 0) 1 1 Try.underlying22 hi hz0 hz1 hz2 rfl (by decide) _ _ _ rfl (World.ownsRow.alloc hO1.2 _) ⟨w1.heap.size, 0, none⟩ 1 1 [u8V x] rfl rfl (cell_one_new _ _ _) ?c2 ?c3 ?c4 ?c5 ?_)
      case c2 => first | rfl | (intro u hu; simp at hu; subst hu; rfl)
      case c3 => unfold maxLen; first | omega | (simp; omega)
      case c4 => first | omega | (simp; omega)
      case c5 => first | omega | (simp; omega)
      intro v2 w2 hown2 hgrow2 _
      have hrow : ∀ k, Value.ownBlock _ = some k → w.heap.size ≤ k := fun k ek => ((World.ownsRow.lt hO1.2) k ek).1
      have hG2 : w.grownBy w2 (some B) := grown_own (grown_trans hG1 (World.grownBy_alloc w1 _ (some B))) hgrow2 hrow
      have hd2 := (hd1.alloc _).grown hgrow2 (fun k ek => by have := hrow k ek; omega)
      have hO2 : OwnB w2 w.heap.size v2 (L ++ [x]) := ⟨app_one hO1.1 hx, by simpa using hown2⟩
      clear hown2 hgrow2 hO1 hd1 hG1 hrow hsz1
      obtain ⟨k, hk⟩ : ∃ k : Nat, opSize x = k ∧ k ≤ 3 := by
        obtain ⟨z0, z3⟩ := opSize_range hx
        exact ⟨(opSize x).toNat, by omega, by omega⟩
      obtain ⟨hk, hk3⟩ := hk
      have HSZ := fun w => specSize_any x hx w
      rw [hk] at HSZ
      clear hk
      go_wp2
      go_loopw [5, 8] (fun out i wr => ∃ (m : Nat) (M : List Nat) (s' : Nat × Int), 1 ≤ m ∧ m ≤ 3 ∧ (M.length ≤ 3 * j + m ∧ j + 1 ≤ M.length) ∧ i = .int .i64 m ∧ OwnB wr w.heap.size out M ∧ Drawn n₀ B a len cap z s' wr ∧ w.grownBy wr (some B)) (fun _ i _ => 3 - (intOf i).toNat)
      case atStart => exact ⟨1, L ++ [x], s1, Nat.le_refl _, by omega, by simp; omega, rfl, hO2, hd2, hG2⟩
      case round =>
        obtain ⟨m, M, s3, hm1, hm3, hM, rfl, hO3, hd3, hg3⟩ := hrel
        by_cases hmk : m < k
        · have hmk' : (m : Int) < (k : Int) := by omega
          go_wp2_with fail
          refine (HSZ _).mono ?_
          rintro e w4 ⟨rfl, b4⟩
          have hO4 := hO3.below b4
          have hd4 := hd3.below b4
          have hG4 := grown_trans hg3 (grown_of_below b4)
          clear hO3 hd3 hg3 b4
          go_wp2_with fail
          refine (byte2_some n₀ B a len cap z s3 _ hd4).mono ?_
          rintro e w5 ⟨y, s5, hy0, hy1, rfl, hd5, hg5⟩
          obtain ⟨Y, rfl⟩ := Int.eq_ofNat_of_zero_le hy0
          have hO5 := hO4.grown hg5 hBw
          have hG5 := grown_trans hG4 hg5
          have hsz5 := hG5.size
          clear hO4 hd4 hG4 hg5
          go_wp2_with (at_builtin; refine wpList_append_own _ rfl _ _ 22 rfl w.heap.size 5 i0 (.int .u8 0) 1 1 Try.underlying22 hi hz0 hz1 hz2 rfl (by decide) _ _ _ rfl (World.ownsRow.alloc hO5.2 _) ⟨w5.heap.size, 0, none⟩ 1 1 [u8V Y] rfl rfl (cell_one_new _ _ _) ?c2 ?c3 ?c4 ?c5 ?_)
          case c2 => first | rfl | (intro u hu; simp at hu; subst hu; rfl)
          case c3 => unfold maxLen; first | omega | (simp; omega)
          case c4 => first | omega | (simp; omega)
          case c5 => first | omega | (simp; omega)
          intro v6 w6 hown6 hgrow6 _
          have hrow : ∀ k, Value.ownBlock _ = some k → w.heap.size ≤ k := fun k ek => ((World.ownsRow.lt hO5.2) k ek).1
          have hG6 : w.grownBy w6 (some B) := grown_own (grown_trans hG5 (World.grownBy_alloc w5 _ (some B))) hgrow6 hrow
          have hd6 := (hd5.alloc _).grown hgrow6 (fun k ek => by have := hrow k ek; omega)
          have hO6 : OwnB w6 w.heap.size v6 (M ++ [Y]) := ⟨app_one hO5.1 (by omega), by simpa using hown6⟩
          clear hown6 hgrow6 hO5 hd5 hG5 hrow hsz5
          go_wp2
          go_roundw
          case rel => exact ⟨m + 1, M ++ [Y], s5, by omega, by omega, by simp; omega, by go_num, hO6, hd6, hG6⟩
          case measure => simp [intOf]; omega
        · have hmk' : ¬ (m : Int) < (k : Int) := by omega
          go_wp2_with fail
          refine (HSZ _).mono ?_
          rintro e w4 ⟨rfl, b4⟩
          have hO4 := hO3.below b4
          have hd4 := hd3.below b4
          have hG4 := grown_trans hg3 (grown_of_below b4)
          clear hO3 hd3 hg3 b4
          go_wp2
          go_roundw
          case rel => exact ⟨j + 1, M, s3, by omega, by omega, by go_num, hO4, hd4, hG4⟩
          case measure => simp [intOf]; omega
    · obtain rfl : j = n := by omega
      go_wp2
      go_ret
      exact ⟨_, L, s', hL, rfl, hO, hd, hg⟩

/-- An address that is drawn. -/
def DrewPc (n₀ B : Nat) (a : Option Addr) (len cap : Nat) (z : List Int) (w : World) (e : Ending) (w' : World) : Prop :=
  ∃ (pc : Nat) (s : Nat × Int), pc < 65536 ∧ e = .returned (.int .u16 pc) ∧ Drawn n₀ B a len cap z s w' ∧ w.grownBy w' (some B)

def pcL (x : Int) : List Int := [0, 255, 512, 4096, 32768, 65535, 65530, x]

theorem pcL_bd (x : Int) (h0 : 0 ≤ x) (h1 : x < 65536) (i : Nat) : 0 ≤ (pcL x)[i]?.getD 0 ∧ (pcL x)[i]?.getD 0 < 65536 := by
  cases hq : (pcL x)[i]? with
  | none => simp
  | some y =>
    have hm := List.mem_of_getElem? hq
    simp only [pcL, List.mem_cons, List.not_mem_nil, or_false] at hm
    simp only [Option.getD_some]
    omega

set_option maxRecDepth 100000 in
theorem pc_drawn (n₀ B : Nat) (a : Option Addr) (len cap : Nat) (z : List Int) (s : Nat × Int) (w : World) (h : Drawn n₀ B a len cap z s w) :
    Calls Try.prog 64 #[.pointer (some ⟨B, 0, none⟩)] w (DrewPc n₀ B a len cap z w) := by
  obtain ⟨b0, b1⟩ := belowV_bound z len s 65536 (by omega)
  go_enter Try.func64, Try.ntmps64
  go_wp2_with fail
  refine (below_drawn n₀ B a len cap z s 65536 _ h).mono ?_
  rintro e w1 ⟨rfl, hd1, hg1⟩
  obtain ⟨v, hv⟩ : ∃ v, belowV z len s 65536 = v := ⟨_, rfl⟩
  rw [hv] at b0 b1 ⊢
  clear hv
  go_wp2_with fail
  have hcells := ints_cells w1 (pcL v) 3
  refine (pickInt_drawn n₀ B a len cap z _ w1.heap.size 8 8 (pcL v) _ (hd1.alloc _) (by omega) (by omega) (by have := hd1.lt; omega) (by simp) (fun i hi => hcells i hi)).mono ?_
  rintro e w2 ⟨rfl, hd2, hg2⟩
  obtain ⟨q0, q1⟩ := pcL_bd v b0 b1 (belowV z len (belowS len s 65536) 8).toNat
  obtain ⟨P, hP⟩ := Int.eq_ofNat_of_zero_le q0
  rw [hP] at q1
  have HP := Lib.hid hP
  clear hP q0 hcells
  rw [show ((8 : Nat) : Int) = 8 from rfl, HP.out]
  have hP2 : P < 65536 := by omega
  go_wp2
  go_ret
  exact ⟨P, _, hP2, rfl, hd2, grown_trans hg1 (grown_trans (World.grownBy_alloc w1 _ (some B)) hg2)⟩

end Go.Proofs.Ytckfdbjjjgfbfaa
