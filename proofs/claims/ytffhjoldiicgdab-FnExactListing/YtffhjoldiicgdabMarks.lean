/-
  Contracts over the law's own helpers: two rows that hold the same texts are told so; marks are written into a row and found there again.
-/
import Derived.Test.YtffhjoldiicgdabSpecCut
import Derived.Test.YtffhjoldiicgdabDec
import Derived.Laws.BytesArg
import Derived.Deep.QuietTactic
import Derived.BigQuiet
import Derived.Deep.RegionHeld3
import Derived.Deep.Draws
import Derived.WalkSmall
namespace Go.Proofs.Ytffhjoldiicgdab
set_option linter.unusedVariables false
set_option linter.unusedSimpArgs false
open Go.RowKit
open Go.Lib (decDigits)

theorem addr_at (g j : Nat) : (⟨g, 0, none⟩ : Addr).add j = ⟨g, j, none⟩ := by
  unfold Addr.add; split <;> simp_all

/-- A row of texts that isn't empty, cell by cell. -/
theorem own_cells {w : World} {base : Nat} {v : Value} {L : List ByteArray} (h : OwnStrs w base v L) (hL : 0 < L.length) :
    ∃ g cap cur, v = .slice (some ⟨g, 0, none⟩) L.length cap ∧ base ≤ g ∧ g < w.heap.size ∧ w.heap[g]? = some (.cells cur 9 (0, 0)) ∧ L.length ≤ cap ∧ cap ≤ maxLen ∧ cur.size = cap ∧ ∀ i, i < L.length → w.cell? ⟨g, i, none⟩ = some (.string (L.getD i ByteArray.empty)) := by
  have h' := h
  rcases h.2 with ⟨_, h0⟩ | ⟨g, cap, cur, rfl, hb, hg, h1, h2, h3, _⟩
  · omega
  · refine ⟨g, cap, cur, rfl, hb, (Array.getElem?_eq_some_iff.1 hg).1, hg, h1, h2, by simpa using h3, fun i hi => ?_⟩
    have := World.ownsRow.cells h' (g := g) rfl i (.string (L.getD i ByteArray.empty)) (by simp [List.getD, hi])
    rwa [addr_at] at this

set_option maxRecDepth 100000 in
theorem eqStr_true (v1 v2 : Value) (b1 b2 : Nat) (L : List ByteArray) (w : World) (hl : L.length ≤ 9223372036854775806) (h1 : OwnStrs w b1 v1 L) (h2 : OwnStrs w b2 v2 L) :
    Calls Try.prog 20 #[v1, v2] w fun e w' => e = .returned (.bool true) ∧ ∃ k, w' = w.drewN k := by
  by_cases hL : 0 < L.length
  · obtain ⟨g1, c1, _, rfl, _, _, _, _, _, _, hc1⟩ := own_cells h1 hL
    obtain ⟨g2, c2, _, rfl, _, _, _, _, _, _, hc2⟩ := own_cells h2 hL
    clear h1 h2
    have HC1 := Lib.hid hc1
    have HC2 := Lib.hid hc2
    clear hc1 hc2
    go_enter Try.func20, Try.ntmps20
    go_wp2
    go_loopw [5] (fun i wr => ∃ k d : Nat, k ≤ L.length ∧ i = .int .i64 k ∧ wr = w.drewN d) (fun i _ => L.length - (intOf i).toNat)
    case atStart => exact ⟨0, 0, Nat.zero_le _, rfl, rfl⟩
    case round =>
      obtain ⟨k, d, hk, rfl, rfl⟩ := hrel
      by_cases hp : k < L.length
      · have e1 := HC1.out k hp
        have e2 := HC2.out k hp
        go_wp2
        go_quiet (fail)
        go_wp2
        go_roundw
        case rel => exact ⟨k + 1, _, by omega, by go_num, rfl⟩
        case measure => simp [intOf]; omega
      · go_wp2
        go_ret
        exact ⟨rfl, _, rfl⟩
  · obtain ⟨a1, c1, rfl⟩ := own_len h1
    obtain ⟨a2, c2, rfl⟩ := own_len h2
    rw [show L.length = 0 by omega]
    clear h1 h2 hL hl
    go_enter Try.func20, Try.ntmps20
    go_wp2
    refine wp_loop_rounds 1 ?_
    rw [rounds_succ]
    go_wp2
    go_ret
    exact ⟨rfl, 0, rfl⟩

/-- The mark of a number. -/
def mt (k : Nat) : ByteArray := strOf (109 :: decDigits k)

theorem conv_one (W : World) (c : Int) : (convert 24 9 (.slice (some ⟨W.heap.size, 0, none⟩) 1 1)).run Try.prog (W.alloc (.cells #[.int .u8 c] 5)) = .ok (.string ⟨#[UInt8.ofNat c.toNat]⟩) (W.alloc (.cells #[.int .u8 c] 5)) :=
  run_convert_bytes_arg (P := Try.prog) _ 24 5 Try.underlying24 Try.underlying5 W.heap.size 0 1 1 [c] rfl (fun i hi => by
    obtain rfl : i = 0 := by omega
    rw [World.cell?_alloc_at _ _ _ _ rfl]; rfl) 9 Try.underlying9

theorem one_append (u : Nat) (L : List UInt8) : ByteArray.mk #[48 + UInt8.ofNat (u % 10)] ++ ByteArray.mk L.toArray = ⟨(UInt8.ofNat (48 + u % 10) :: L).toArray⟩ := by
  have e : UInt8.ofNat (48 + u % 10) = 48 + UInt8.ofNat (u % 10) := UInt8.ofNat_add 48 (u % 10)
  rw [e]
  exact ByteArray.mk_append_mk [48 + UInt8.ofNat (u % 10)] L

theorem m_append (L : List UInt8) : ByteArray.mk #[109] ++ ByteArray.mk L.toArray = ⟨(109 :: L).toArray⟩ := ByteArray.mk_append_mk [109] L

theorem ret_strM {a b : ByteArray} (h : a = b) : Ending.returned (.string a) = .returned (.string b) := by rw [h]

theorem dec_lenM (u : Nat) (h : u < 18446744073709551616) : (decDigits u).length ≤ 20 := by rw [Lib.decDigits_length]; exact Lib.nDigits_le20 u h

set_option maxRecDepth 100000 in
theorem markText_any (N : Nat) (h0 : 0 < N) (h1 : N ≤ 9223372036854775807) (w : World) :
    Calls Try.prog 42 #[.int .i64 N] w fun e w' => e = .returned (.string (mt N)) ∧ Below w.heap.size w w' := by
  have hN := dec_lenM N (by omega)
  go_enter Try.func42, Try.ntmps42
  go_wp2
  go_loopw [0, 3] (fun k out wr => ∃ (u : Nat) (L : List UInt8), u ≤ N ∧ k = .int .i64 u ∧ out = .string ⟨L.toArray⟩ ∧ Below w.heap.size w wr ∧ Hid (decP u ++ L = decDigits N)) (fun k _ _ => (intOf k).toNat)
  case atStart => exact ⟨N, [], Nat.le_refl _, rfl, rfl, Below.refl _ _, Lib.hid (by rw [decP_pos N h0]; simp)⟩
  case round =>
    obtain ⟨u, L, hu, rfl, rfl, hb, H⟩ := hrel
    have hL : L.length ≤ 20 := by have := congrArg List.length H.out; simp at this; omega
    have hsz := hb.size
    by_cases hz : 0 < u
    · have hcv := fun c => conv_one wr c
      go_wp2
      go_roundw
      case rel => exact ⟨u / 10, UInt8.ofNat (48 + u % 10) :: L, by omega, by go_num, by rw [one_append], hb.alloc hsz _, Lib.hid (by rw [← H.out, decP_step u hz]; simp)⟩
      case measure => simp [intOf]; omega
    · obtain rfl : u = 0 := by omega
      go_wp2
      go_ret; exact ⟨ret_strM ((m_append L).trans (by unfold mt strOf; rw [← H.out, decP_zero]; rfl)), hb⟩

/-- Cell i of block g is set. -/
theorem setCell_block {w : World} {g i : Nat} {cur : Array Value} {e : TypeId} {u : Value} (h : w.heap[g]? = some (.cells cur e (0, 0))) : (w.setCell ⟨g, i, none⟩ u).heap[g]? = some (.cells (cur.setIfInBounds i u) e (0, 0)) := by
  obtain ⟨hlt, hk⟩ := Array.getElem?_eq_some_iff.1 h
  show (w.heap.modify g _)[g]? = _
  rw [Array.getElem?_eq_getElem (by rw [Array.size_modify]; exact hlt), Array.getElem_modify_self, hk]
  rfl

theorem cell_of_block {w : World} {g i : Nat} {cur : Array Value} {e : TypeId} (h : w.heap[g]? = some (.cells cur e (0, 0))) : w.cell? ⟨g, i, none⟩ = cur[i]? := by simp [World.cell?, h]
theorem frozen_of_block {w : World} {g i : Nat} {cur : Array Value} {e : TypeId} (h : w.heap[g]? = some (.cells cur e (0, 0))) : w.frozen? ⟨g, i, none⟩ = false := by simp [World.frozen?, h]

/-- Only block g, and what is new, has turned. -/
theorem only_set {a w : World} {g i : Nat} (h : a.grownBy w (some g)) (u : Value) : a.grownBy (w.setCell ⟨g, i, none⟩ u) (some g) :=
  ⟨h.os, h.tape, h.output, by simpa [World.setCell] using h.size, fun j hj hne => (Below.heap_setCell w ⟨g, i, none⟩ u j (by rintro rfl; exact hne rfl)).trans (h.block j hj hne)⟩
theorem only_below {a w w' : World} {row : Option Nat} (h : a.grownBy w row) (hb : Below w.heap.size w w') : a.grownBy w' row :=
  ⟨hb.os.trans h.os, hb.tape.trans h.tape, hb.output.trans h.output, Nat.le_trans h.size hb.size, fun i hi hn => (hb.block i (Nat.lt_of_lt_of_le hi h.size)).trans (h.block i hi hn)⟩

/-- The marks from k on stand in the first n cells. -/
def Marked (cur : Array Value) (k n : Nat) : Prop := ∀ j, j < n → cur[j]? = some (.string (mt (k + j)))

set_option maxRecDepth 100000 in
theorem mark_any (g n cap k0 : Nat) (w : World) (cur : Array Value) (hn : n ≤ cap) (hcap : cur.size = cap) (hk : 0 < k0) (hb : k0 + n ≤ 9223372036854775806) (hg : w.heap[g]? = some (.cells cur 9 (0, 0)))
    (hc : ∀ i, i < n → ∃ x, cur[i]? = some (.string x)) :
    Calls Try.prog 21 #[.slice (some ⟨g, 0, none⟩) n cap, .int .i64 k0] w fun e w' => e = .returned (.int .i64 (k0 + n : Nat)) ∧ ∃ cur', w'.heap[g]? = some (.cells cur' 9 (0, 0)) ∧ cur'.size = cap ∧ Marked cur' k0 n ∧ w.grownBy w' (some g) := by
  have hglt := (Array.getElem?_eq_some_iff.1 hg).1
  have HC := Lib.hid hc
  have HG := Lib.hid hg
  clear hc hg
  go_enter Try.func21, Try.ntmps21
  go_wp2
  go_loopw [1, 5] (fun kk i wr => ∃ (j : Nat) (c : Array Value), j ≤ n ∧ i = .int .i64 j ∧ kk = .int .i64 (k0 + j : Nat) ∧ Hid (wr.heap[g]? = some (.cells c 9 (0, 0)) ∧ c.size = cap ∧ Marked c k0 j ∧ (∀ i, i < n → ∃ x, c[i]? = some (.string x))) ∧ w.grownBy wr (some g)) (fun _ i _ => n - (intOf i).toNat)
  case atStart => exact ⟨0, cur, Nat.zero_le _, rfl, rfl, Lib.hid ⟨HG.out, hcap, fun j hj => by omega, HC.out⟩, World.grownBy.refl _ _⟩
  case round =>
    obtain ⟨j, c, hj, rfl, rfl, H, hgr⟩ := hrel
    by_cases hp : j < n
    · go_wp2_with fail
      refine (markText_any (k0 + j) (by omega) (by omega) _).mono ?_
      rintro e w1 ⟨rfl, hb1⟩
      obtain ⟨e1, e2, e3, e4⟩ := H.out
      have hlt := (Array.getElem?_eq_some_iff.1 e1).1
      have e1' : w1.heap[g]? = some (.cells c 9 (0, 0)) := (hb1.block g hlt).trans e1
      obtain ⟨x, hx⟩ := e4 j hp
      have hcell : w1.cell? ⟨g, j, none⟩ = some (.string x) := (cell_of_block e1').trans hx
      have hfr : w1.frozen? ⟨g, j, none⟩ = false := frozen_of_block e1'
      have H1 := Lib.hid e1'
      have H2 := Lib.hid (And.intro e2 (And.intro e3 e4))
      clear e1 e2 e3 e4 e1' hx
      go_wp2
      go_roundw
      case rel =>
        obtain ⟨e2, e3, e4⟩ := H2.out
        refine ⟨j + 1, c.setIfInBounds j (.string (mt (k0 + j))), by omega, by go_num, by go_num, Lib.hid ⟨setCell_block H1.out, by simpa using e2, fun i hi => ?_, fun i hi => ?_⟩, only_set (only_below hgr hb1) _⟩
        · by_cases hij : i = j
          · subst hij; rw [Array.getElem?_setIfInBounds_self_of_lt (by omega)]
          · rw [Array.getElem?_setIfInBounds_ne (Ne.symm hij)]; exact e3 i (by omega)
        · by_cases hij : i = j
          · subst hij; rw [Array.getElem?_setIfInBounds_self_of_lt (by omega)]; exact ⟨_, rfl⟩
          · rw [Array.getElem?_setIfInBounds_ne (Ne.symm hij)]; exact e4 i hi
      case measure => simp [intOf]; omega
    · obtain rfl : j = n := by omega
      go_wp2
      go_ret
      exact ⟨rfl, c, H.out.1, H.out.2.1, H.out.2.2.1, hgr⟩

theorem mark_empty (a : Option Addr) (cap : Nat) (k0 : Int) (w : World) :
    Calls Try.prog 21 #[.slice a 0 cap, .int .i64 k0] w fun e w' => e = .returned (.int .i64 k0) ∧ w = w' := by
  go_enter Try.func21, Try.ntmps21
  go_wp2
  refine wp_loop_rounds 1 ?_
  rw [rounds_succ]
  go_wp2
  go_ret
  exact ⟨rfl, rfl⟩

theorem markText_keep (g j : Nat) (x : Value) (N : Nat) (n : Int) (hn : n = (N : Int)) (h0 : 0 < N) (h1 : N ≤ 9223372036854775807) (w : World) (hc : w.cell? ⟨g, j, none⟩ = some x) (hg : g < w.heap.size) :
    Calls Try.prog 42 #[.int .i64 n] w fun e w' => e = .returned (.string (mt N)) ∧ Below w.heap.size w w' ∧ w'.cell? ⟨g, j, none⟩ = some x := by
  subst hn
  exact (markText_any N h0 h1 w).mono fun _ _ ⟨he, hb⟩ => ⟨he, hb, (hb.cell (p := ⟨g, j, none⟩) hg).trans hc⟩

set_option maxRecDepth 100000 in
set_option maxHeartbeats 800000 in
theorem held_any (g n cap k0 : Nat) (w : World) (cur : Array Value) (hn : n ≤ cap) (hk : 0 < k0) (hb : k0 + n ≤ 9223372036854775806) (hg : w.heap[g]? = some (.cells cur 9 (0, 0)))
    (hc : Marked cur k0 n) :
    Calls Try.prog 22 #[.slice (some ⟨g, 0, none⟩) n cap, .int .i64 k0] w fun e w' => e = .returned (.int .i64 (k0 + n : Nat)) ∧ Below w.heap.size w w' := by
  have hglt := (Array.getElem?_eq_some_iff.1 hg).1
  have HC := Lib.hid hc
  have HG := Lib.hid hg
  clear hc hg
  go_enter Try.func22, Try.ntmps22
  go_wp2
  go_loopw [1, 5] (fun kk i wr => ∃ (j : Nat), j ≤ n ∧ i = .int .i64 j ∧ kk = .int .i64 (k0 + j : Nat) ∧ Below w.heap.size w wr) (fun _ i _ => n - (intOf i).toNat)
  case atStart => exact ⟨0, Nat.zero_le _, rfl, rfl, Below.refl _ _⟩
  case round =>
    obtain ⟨j, hj, rfl, rfl, hbw⟩ := hrel
    have hsz := hbw.size
    by_cases hp : j < n
    · have hcell : wr.cell? ⟨g, j, none⟩ = some (.string (mt (k0 + j))) := by
        rw [hbw.cell (p := ⟨g, j, none⟩) hglt, cell_of_block HG.out]; exact HC.out j hp
      have hj0 : (0 : Int) ≤ (j : Int) := Int.natCast_nonneg _
      have hj1 : (j : Int) < (n : Int) := by omega
      go_wp2_with fail
      go_region_held3 (fun w' => w'.cell? ⟨g, j, none⟩ = some (.string (mt (k0 + j)))) (go_keep)
        (first | (go_at_call 42; refine (markText_keep g j (.string (mt (k0 + j))) (k0 + j) _ ?_ (by omega) (by omega) _ ?_ ?_).mono ?_; (go_num); (first | assumption | (simp [*]; done)); (simp; omega); rintro e w1 ⟨rfl, hb1, hc1⟩))
      go_wp2
      go_roundw
      case rel => exact ⟨j + 1, by omega, by go_num, by go_num, hbw.drew.trans (hb1.mono (by simpa using hsz))⟩
      case measure => simp [intOf]; omega
    · obtain rfl : j = n := by omega
      go_wp2
      go_ret
      exact ⟨rfl, hbw⟩

theorem held_empty (a : Option Addr) (cap : Nat) (k0 : Int) (w : World) :
    Calls Try.prog 22 #[.slice a 0 cap, .int .i64 k0] w fun e w' => e = .returned (.int .i64 k0) ∧ w = w' := by
  go_enter Try.func22, Try.ntmps22
  go_wp2
  refine wp_loop_rounds 1 ?_
  rw [rounds_succ]
  go_wp2
  go_ret
  exact ⟨rfl, rfl⟩

end Go.Proofs.Ytffhjoldiicgdab
