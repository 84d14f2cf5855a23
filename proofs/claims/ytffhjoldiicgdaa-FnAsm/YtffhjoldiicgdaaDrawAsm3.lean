/-
  Contracts over the program: a text that is bent (l01Bent), and what DrawReadOp tells: some text and some address.
-/
import Derived.Test.YtffhjoldiicgdaaDrawAsm2
import Derived.Test.YtffhjoldiicgdaaAsmText
namespace Go.Proofs.Ytffhjoldiicgdaa
set_option linter.unusedVariables false
set_option linter.unusedSimpArgs false
open Go.RowKit

/-- A text that is drawn: whichever it is, of at most m bytes. -/
def DrewStr (n₀ B : Nat) (a : Option Addr) (len cap : Nat) (z : List Int) (m : Nat) (w : World) (e : Ending) (w' : World) : Prop :=
  ∃ (t : ByteArray) (s : Nat × Int), t.size ≤ m ∧ e = .returned (.string t) ∧ Drawn n₀ B a len cap z s w' ∧ w.grownBy w' (some B)

theorem pick_some (n₀ B : Nat) (a : Option Addr) (len cap : Nat) (z : List Int) (s : Nat × Int) (g n c m : Nat) (xs : List ByteArray) (hm : ∀ x ∈ xs, x.size ≤ m) (w : World) (h : Drawn n₀ B a len cap z s w) (hn : 0 < n) (hn2 : n ≤ 1048576) (hgB : g ≠ B) (hg : g < w.heap.size) (hx : ∀ i, i < n → w.cell? ⟨g, i, none⟩ = some (.string (xs[i]?.getD ByteArray.empty))) :
    Calls Try.prog 46 #[.pointer (some ⟨B, 0, none⟩), .slice (some ⟨g, 0, none⟩) n c] w (DrewStr n₀ B a len cap z m w) :=
  (pick_drawn n₀ B a len cap z s g n c xs w h hn hn2 hgB hg hx).mono fun _ _ ⟨he, hd, hg⟩ => ⟨_, _, by
    cases hq : xs[(belowV z len s n).toNat]? with
    | none => simp
    | some x => exact hm x (List.mem_of_getElem? hq), he, hd, hg⟩

def bentA : List ByteArray := [⟨#[48]⟩, ⟨#[32]⟩, ⟨#[255]⟩, ⟨#[35]⟩, ⟨#[10]⟩, ⟨#[97]⟩, ⟨#[70]⟩, ⟨#[36]⟩, ⟨#[119]⟩, ⟨#[44]⟩]
def bentB : List ByteArray := [⟨#[48]⟩, ⟨#[65]⟩, ⟨#[0]⟩, ⟨#[57]⟩, ⟨#[36]⟩, ⟨#[114]⟩]
theorem bentA_small : ∀ x ∈ bentA, x.size ≤ 1 := by decide
theorem bentB_small : ∀ x ∈ bentB, x.size ≤ 1 := by decide

theorem Drawn.drew {n₀ B : Nat} {a : Option Addr} {len cap : Nat} {z : List Int} {s : Nat × Int} {w : World} (h : Drawn n₀ B a len cap z s w) : Drawn n₀ B a len cap z s w.drew := h

theorem of_drew {w w' : World} {row : Option Nat} (h : w.drew.grownBy w' row) : w.grownBy w' row := ⟨h.os, h.tape, h.output, h.size, h.block⟩

set_option maxRecDepth 100000 in
set_option maxHeartbeats 1600000 in
theorem bent_drawn (n₀ B : Nat) (a : Option Addr) (len cap : Nat) (z : List Int) (s : Nat × Int) (t : ByteArray) (ht : t.size ≤ 100000) (w : World) (h : Drawn n₀ B a len cap z s w) :
    Calls Try.prog 47 #[.pointer (some ⟨B, 0, none⟩), .string t] w (DrewStr n₀ B a len cap z (t.size + 1) w) := by
  obtain ⟨q0, q1⟩ := belowV_bound z len s ((t.size : Int) + 1) (by omega)
  obtain ⟨k, hk⟩ := Int.eq_ofNat_of_zero_le q0
  rw [hk] at q1
  have HK := Lib.hid hk
  clear hk q0
  have hkt : k ≤ t.size := by omega
  obtain ⟨S1, hS1⟩ : ∃ S1, belowS len s ((t.size : Int) + 1) = S1 := ⟨_, rfl⟩
  obtain ⟨r0, r1⟩ := belowV_bound z len S1 10 (by omega)
  obtain ⟨v, hv⟩ : ∃ v, belowV z len S1 10 = v := ⟨_, rfl⟩
  have HS1 := Lib.hid hS1
  have HV := Lib.hid hv
  clear hS1 hv r0 r1
  have x1 : (t.extract 0 k).size = k := by rw [ByteArray.size_extract]; omega
  have x2 : (t.extract k t.size).size = t.size - k := by rw [ByteArray.size_extract]; omega
  have kk : (0 : Int) ≤ (k : Int) ∧ (k : Int) ≤ (t.size : Int) := by omega
  go_enter Try.func47, Try.ntmps47
  go_wp2_with fail
  refine (below_drawn n₀ B a len cap z s _ _ h).mono ?_
  rintro e w1 ⟨rfl, hd1, hg1⟩
  rw [HK.out]
  rw [HS1.out] at hd1
  go_wp2_with fail
  refine (below_drawn n₀ B a len cap z _ 10 _ hd1).mono ?_
  rintro e w2 ⟨rfl, hd2, hg2⟩
  rw [HV.out]
  have hG2 := grown_trans hg1 hg2
  have hlt2 := hd2.lt
  clear hd1 hg1 hg2 h
  cases v0 : (v == 0) with
  | true =>
    go_wp2
    go_ret
    exact ⟨t.extract 0 k, _, by omega, rfl, hd2, hG2⟩
  | false =>
    cases v1 : (v == 1) with
    | true =>
      have HPK : Calls Try.prog 46 #[.pointer (some ⟨B, 0, none⟩), .slice (some ⟨w2.heap.size, 0, none⟩) 10 10] (w2.alloc (.cells #[.string ⟨#[48]⟩, .string ⟨#[32]⟩, .string ⟨#[255]⟩, .string ⟨#[35]⟩, .string ⟨#[10]⟩, .string ⟨#[97]⟩, .string ⟨#[70]⟩, .string ⟨#[36]⟩, .string ⟨#[119]⟩, .string ⟨#[44]⟩] 9)).drew (DrewStr n₀ B a len cap z 1 (w2.alloc (.cells #[.string ⟨#[48]⟩, .string ⟨#[32]⟩, .string ⟨#[255]⟩, .string ⟨#[35]⟩, .string ⟨#[10]⟩, .string ⟨#[97]⟩, .string ⟨#[70]⟩, .string ⟨#[36]⟩, .string ⟨#[119]⟩, .string ⟨#[44]⟩] 9)).drew) :=
        pick_some n₀ B a len cap z (belowS len S1 10) w2.heap.size 10 10 1 bentA bentA_small _ (hd2.alloc _).drew (by omega) (by omega) (by omega) (by simp) (fun i hi => strs_cells w2 bentA 9 i hi)
      go_wp2_with fail
      go_region_held3 (fun _ => True) (trivial) (first | (go_at_call 46; refine HPK.mono ?_; rintro e w3 ⟨u, s3, hu, rfl, hd3, hg3⟩; (have o1 : ¬ 9223372036854775807 < k + u.size := by omega); (have o2 : ¬ 9223372036854775807 < k + u.size + (t.size - k) := by omega)))
      go_wp2
      go_ret
      refine ⟨t.extract 0 k ++ u ++ t.extract k t.size, _, ?_, rfl, hd3, grown_trans (grown_trans hG2 (World.grownBy_alloc w2 _ (some B))) (of_drew hg3)⟩
      rw [ByteArray.size_append, ByteArray.size_append]; omega
    | false =>
      cases v2 : (v == 2) with
      | false =>
        go_wp2
        go_ret
        exact ⟨t, _, by omega, rfl, hd2, hG2⟩
      | true =>
        by_cases hlt : k < t.size
        · have x3 : (t.extract (k + 1) t.size).size = t.size - (k + 1) := by rw [ByteArray.size_extract]; omega
          have b1 : (0 : Int) ≤ (k : Int) + 1 := by omega
          have b2 : (k : Int) + 1 ≤ (t.size : Int) := by omega
          have b3 : ¬ (t.size : Int) < (k : Int) + 1 := by omega
          have hwr : IntKind.i64.wrap ((k : Int) + 1) = (k : Int) + 1 := by rw [IntKind.wrap_i64]; omega
          have kk2 : (0 : Int) ≤ (k : Int) + 1 ∧ (k : Int) + 1 ≤ (t.size : Int) := by omega
          have HPK : Calls Try.prog 46 #[.pointer (some ⟨B, 0, none⟩), .slice (some ⟨w2.heap.size, 0, none⟩) 6 6] (w2.alloc (.cells #[.string ⟨#[48]⟩, .string ⟨#[65]⟩, .string ⟨#[0]⟩, .string ⟨#[57]⟩, .string ⟨#[36]⟩, .string ⟨#[114]⟩] 9)).drew (DrewStr n₀ B a len cap z 1 (w2.alloc (.cells #[.string ⟨#[48]⟩, .string ⟨#[65]⟩, .string ⟨#[0]⟩, .string ⟨#[57]⟩, .string ⟨#[36]⟩, .string ⟨#[114]⟩] 9)).drew) :=
            pick_some n₀ B a len cap z (belowS len S1 10) w2.heap.size 6 6 1 bentB bentB_small _ (hd2.alloc _).drew (by omega) (by omega) (by omega) (by simp) (fun i hi => strs_cells w2 bentB 9 i hi)
          go_wp2_with fail
          go_region_held3 (fun _ => True) (trivial) (first | (go_at_call 46; refine HPK.mono ?_; rintro e w3 ⟨u, s3, hu, rfl, hd3, hg3⟩; (have o1 : ¬ 9223372036854775807 < k + u.size := by omega); (have o2 : ¬ 9223372036854775807 < k + u.size + (t.size - (k + 1)) := by omega)))
          go_wp2
          go_ret
          refine ⟨t.extract 0 k ++ u ++ t.extract (k + 1) t.size, _, ?_, rfl, hd3, grown_trans (grown_trans hG2 (World.grownBy_alloc w2 _ (some B))) (of_drew hg3)⟩
          rw [ByteArray.size_append, ByteArray.size_append]; omega
        · go_wp2
          go_ret
          exact ⟨t, _, by omega, rfl, hd2, hG2⟩

def readL : List ByteArray := [⟨#[]⟩, ⟨#[76, 68, 65]⟩, ⟨#[76, 68, 65, 32, 35, 36, 49]⟩, ⟨#[76, 68, 65, 32, 36, 48, 48, 49]⟩, ⟨#[83, 84, 65, 32, 35, 36, 49, 48]⟩, ⟨#[65, 83, 76]⟩, ⟨#[65, 83, 76, 32, 65]⟩, ⟨#[78, 79, 80, 32, 65]⟩, ⟨#[76, 68, 65, 32, 40, 36, 49, 48, 41, 44, 88]⟩, ⟨#[74, 77, 80, 32, 40, 36, 49, 50, 51, 52, 41]⟩, ⟨#[66, 78, 69, 32, 36, 49, 48, 48, 48]⟩, ⟨#[66, 78, 69, 32, 36, 49, 48]⟩, ⟨#[108, 100, 97, 32, 35, 36, 49, 48]⟩, ⟨#[76, 68, 88, 32, 36, 49, 50, 44, 89]⟩, ⟨#[83, 84, 88, 32, 36, 49, 50, 51, 52, 44, 89]⟩, ⟨#[76, 68, 65, 32, 32, 35, 36, 49, 48]⟩]
theorem readL_small : ∀ x ∈ readL, x.size ≤ 100 := by decide

theorem showOp_size (n x0 x1 x2 pc : Nat) (h0 : x0 < 256) : (showOp n x0 x1 x2 pc).size ≤ 12 := by
  unfold showOp
  split
  · simp
  · rename_i hne
    have hid : opId x0 ≠ 0 := fun e => hne (.inr (.inl (by unfold opSize; rw [if_pos e])))
    exact (show_size h0 hid).2

theorem RowB.three {w : World} {a : Option Addr} {L : List Nat} (h : RowB w a L) : Three w a L.length (L.getD 0 0) (L.getD 1 0) (L.getD 2 0) := by
  by_cases hl : L.length = 0
  · exact .inl hl
  · obtain ⟨g, o, rfl, hg, hc⟩ := h.2 (by omega)
    exact .inr ⟨g, o, rfl, hg, by simpa [u8V] using hc 0 (by omega), fun h2 => by simpa [u8V] using hc 1 (by omega), fun h3 => by simpa [u8V] using hc 2 (by omega)⟩

theorem RowB.small {w : World} {a : Option Addr} {L : List Nat} (h : RowB w a L) (i : Nat) : L.getD i 0 < 256 := by
  by_cases hi : i < L.length
  · exact h.1 i hi
  · simp [List.getD, List.getElem?_eq_none (by omega : L.length ≤ i)]

set_option maxRecDepth 100000 in
theorem drawRead_any (n₀ : Nat) (a : Option Addr) (len cap : Nat) (z : List Int) (w : World) (hc : CodeRow n₀ w a len z) (hn : n₀ ≤ w.heap.size) :
    Calls Try.prog 19 #[.slice a len cap] w (DrewText w) := by
  have hst := hc.startS (cap := cap) hn
  go_enter Try.func19, Try.ntmps19
  go_wp2_with fail
  refine (new_any n₀ a len cap z w hc).mono ?_
  rintro e w1 ⟨rfl, rfl⟩
  go_wp2_with fail
  refine (pc_drawn n₀ _ a len cap z _ _ hst).mono ?_
  rintro e w2 ⟨pc, s2, hpc, rfl, hd2, hg2⟩
  go_wp2_with fail
  refine (once_drawn n₀ _ a len cap z s2 4 _ hd2).mono ?_
  rintro e w3 ⟨rfl, hd3, hg3⟩
  have hG3 := grown_trans hg2 hg3
  have hlt3 := hd3.lt
  clear hd2 hg2 hg3
  cases hq : (belowV z len s2 4 == 0) with
  | true =>
    have HPK : Calls Try.prog 46 #[.pointer (some ⟨w.heap.size, 0, none⟩), .slice (some ⟨w3.heap.size, 0, none⟩) 16 16] (w3.alloc (.cells #[.string ⟨#[]⟩, .string ⟨#[76, 68, 65]⟩, .string ⟨#[76, 68, 65, 32, 35, 36, 49]⟩, .string ⟨#[76, 68, 65, 32, 36, 48, 48, 49]⟩, .string ⟨#[83, 84, 65, 32, 35, 36, 49, 48]⟩, .string ⟨#[65, 83, 76]⟩, .string ⟨#[65, 83, 76, 32, 65]⟩, .string ⟨#[78, 79, 80, 32, 65]⟩, .string ⟨#[76, 68, 65, 32, 40, 36, 49, 48, 41, 44, 88]⟩, .string ⟨#[74, 77, 80, 32, 40, 36, 49, 50, 51, 52, 41]⟩, .string ⟨#[66, 78, 69, 32, 36, 49, 48, 48, 48]⟩, .string ⟨#[66, 78, 69, 32, 36, 49, 48]⟩, .string ⟨#[108, 100, 97, 32, 35, 36, 49, 48]⟩, .string ⟨#[76, 68, 88, 32, 36, 49, 50, 44, 89]⟩, .string ⟨#[83, 84, 88, 32, 36, 49, 50, 51, 52, 44, 89]⟩, .string ⟨#[76, 68, 65, 32, 32, 35, 36, 49, 48]⟩] 9)) (DrewStr n₀ w.heap.size a len cap z 100 (w3.alloc (.cells #[.string ⟨#[]⟩, .string ⟨#[76, 68, 65]⟩, .string ⟨#[76, 68, 65, 32, 35, 36, 49]⟩, .string ⟨#[76, 68, 65, 32, 36, 48, 48, 49]⟩, .string ⟨#[83, 84, 65, 32, 35, 36, 49, 48]⟩, .string ⟨#[65, 83, 76]⟩, .string ⟨#[65, 83, 76, 32, 65]⟩, .string ⟨#[78, 79, 80, 32, 65]⟩, .string ⟨#[76, 68, 65, 32, 40, 36, 49, 48, 41, 44, 88]⟩, .string ⟨#[74, 77, 80, 32, 40, 36, 49, 50, 51, 52, 41]⟩, .string ⟨#[66, 78, 69, 32, 36, 49, 48, 48, 48]⟩, .string ⟨#[66, 78, 69, 32, 36, 49, 48]⟩, .string ⟨#[108, 100, 97, 32, 35, 36, 49, 48]⟩, .string ⟨#[76, 68, 88, 32, 36, 49, 50, 44, 89]⟩, .string ⟨#[83, 84, 88, 32, 36, 49, 50, 51, 52, 44, 89]⟩, .string ⟨#[76, 68, 65, 32, 32, 35, 36, 49, 48]⟩] 9))) :=
      pick_some n₀ w.heap.size a len cap z (belowS len s2 4) w3.heap.size 16 16 100 readL readL_small _ (hd3.alloc _) (by omega) (by omega) (by omega) (by simp) (fun i hi => strs_cells w3 readL 9 i hi)
    go_wp2_with fail
    refine HPK.mono ?_
    rintro e w4 ⟨u, s4, hu, rfl, hd4, hg4⟩
    have hb4 : Below w.heap.size w w4 := ((Below.refl _ _).alloc (Nat.le_refl _) _).trans (grown_below (grown_trans (grown_trans hG3 (World.grownBy_alloc w3 _ (some w.heap.size))) hg4) (Nat.le_refl _) (by simp))
    go_wp2
    go_ret2
    exact ⟨u, pc, by omega, hpc, rfl, hb4⟩
  | false =>
    go_wp2_with fail
    refine (bytes_drawn n₀ _ a len cap z _ 1 (by omega) _ hd3).mono ?_
    rintro e w4 ⟨v, L, s4, hL, rfl, hO, hd4, hg4⟩
    obtain ⟨a1, c1, rfl⟩ := hO.len
    have hrow := hO.row.2
    have hG4 := grown_trans hG3 hg4
    go_wp2_with fail
    refine (specShow_any a1 L.length c1 (L.getD 0 0) (L.getD 1 0) (L.getD 2 0) pc (hrow.small 0) (hrow.small 1) (hrow.small 2) hpc _ hrow.three).mono ?_
    rintro e w5 ⟨rfl, b5⟩
    have hs5 := showOp_size L.length (L.getD 0 0) (L.getD 1 0) (L.getD 2 0) pc (hrow.small 0)
    obtain ⟨T, hT⟩ : ∃ T, showOp L.length (L.getD 0 0) (L.getD 1 0) (L.getD 2 0) pc = T := ⟨_, rfl⟩
    rw [hT] at hs5 ⊢
    clear hT hrow hO
    have hd5 := hd4.below b5
    have hG5 := grown_trans hG4 (grown_of_below b5)
    go_wp2_with fail
    refine (bent_drawn n₀ _ a len cap z s4 T (by omega) _ hd5).mono ?_
    rintro e w6 ⟨u, s6, hu, rfl, hd6, hg6⟩
    have hb6 : Below w.heap.size w w6 := ((Below.refl _ _).alloc (Nat.le_refl _) _).trans (grown_below (grown_trans hG5 hg6) (Nat.le_refl _) (by simp))
    go_wp2
    go_ret2
    exact ⟨u, pc, by omega, hpc, rfl, hb6⟩

end Go.Proofs.Ytffhjoldiicgdaa
