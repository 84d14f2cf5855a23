/-
  Contracts over the program: texts that are drawn: l01Pick, and what DrawWords and DrawLines tell.
-/
import Derived.Test.YtcblinodfgdgfaaDraw
namespace Go.Proofs.Ytcblinodfgdgfaa
open Go.RowKit

set_option maxRecDepth 100000 in
theorem pick_drawn (n₀ B : Nat) (a : Option Addr) (len cap : Nat) (z : List Int) (s : Nat × Int) (g n c : Nat) (xs : List ByteArray) (w : World) (h : Drawn n₀ B a len cap z s w) (hn : 0 < n) (hn2 : n ≤ 1048576) (hgB : g ≠ B) (hg : g < w.heap.size) (hx : ∀ i, i < n → w.cell? ⟨g, i, none⟩ = some (.string (xs[i]?.getD ByteArray.empty))) :
    Calls Try.prog 24 #[.pointer (some ⟨B, 0, none⟩), .slice (some ⟨g, 0, none⟩) n c] w fun e w' => e = .returned (.string (xs[(belowV z len s n).toNat]?.getD ByteArray.empty)) ∧ Drawn n₀ B a len cap z (belowS len s n) w' ∧ w.grownBy w' (some B) := by
  obtain ⟨b0, b1⟩ := belowV_bound z len s n (by omega)
  obtain ⟨k, hk⟩ := Int.eq_ofNat_of_zero_le b0
  have HX := Lib.hid hx
  have HK := Lib.hid hk
  have hkn : k < n := by omega
  clear hx hk
  go_enter Try.func24, Try.ntmps24
  go_wp2_with fail
  refine (below_drawn n₀ B a len cap z s n _ h).mono ?_
  rintro e w1 ⟨rfl, hd1, hg1⟩
  have hc : w1.cell? ⟨g, k, none⟩ = some (.string (xs[k]?.getD ByteArray.empty)) := by
    rw [World.cell?_of_block (hg1.block g hg (fun e => hgB (by cases e; rfl)))]
    exact HX.out k hkn
  clear b0 b1
  rw [HK.out]
  go_wp2
  go_ret
  refine ⟨?_, hd1, hg1⟩
  rw [HK.out]; rfl

theorem strs_cells (w : World) (xs : List ByteArray) (t : TypeId) : ∀ i, i < xs.length → (w.alloc (.cells (xs.map Value.string).toArray t)).cell? ⟨w.heap.size, i, none⟩ = some (.string (xs[i]?.getD ByteArray.empty)) := by
  intro i hi
  rw [World.cell?_alloc_at _ _ _ _ rfl]
  simp [hi]

/-- Pieces that are drawn one behind the other: the state and the text behind i of them. -/
def glue (P : List ByteArray) (z : List Int) (len : Nat) (s : Nat × Int) : Nat → (Nat × Int) × ByteArray
  | 0 => (s, ByteArray.empty)
  | i + 1 => (belowS len (glue P z len s i).1 P.length, (glue P z len s i).2 ++ P[(belowV z len (glue P z len s i).1 P.length).toNat]?.getD ByteArray.empty)

theorem glue_size (P : List ByteArray) (hP : ∀ x ∈ P, x.size ≤ 2) (z : List Int) (len : Nat) (s : Nat × Int) (i : Nat) : (glue P z len s i).2.size ≤ 2 * i := by
  induction i with
  | zero => simp [glue]
  | succ i ih =>
    simp only [glue]
    rw [ByteArray.size_append]
    have : (P[(belowV z len (glue P z len s i).1 P.length).toNat]?.getD ByteArray.empty).size ≤ 2 := by
      cases hq : P[(belowV z len (glue P z len s i).1 P.length).toNat]? with
      | none => simp
      | some x => exact hP x (List.mem_of_getElem? hq)
    omega

def wordsP : List ByteArray := [⟨#[97]⟩, ⟨#[32]⟩, ⟨#[98, 99]⟩, ⟨#[9]⟩, ⟨#[]⟩, ⟨#[10]⟩]
def linesP : List ByteArray := [⟨#[97]⟩, ⟨#[10]⟩, ⟨#[98, 99]⟩, ⟨#[10]⟩, ⟨#[]⟩]
theorem wordsP_small : ∀ x ∈ wordsP, x.size ≤ 2 := by decide
theorem linesP_small : ∀ x ∈ linesP, x.size ≤ 2 := by decide

def drawText (P : List ByteArray) (m : Int) (z : List Int) (len : Nat) : ByteArray := (glue P z len (belowS len (0, startH z len) m) (belowV z len (0, startH z len) m).toNat).2

theorem drawText_size (P : List ByteArray) (hP : ∀ x ∈ P, x.size ≤ 2) (m : Int) (hm : 0 < m) (hm2 : m ≤ 100) (z : List Int) (len : Nat) : (drawText P m z len).size ≤ 200 := by
  have h1 := glue_size P hP z len (belowS len (0, startH z len) m) (belowV z len (0, startH z len) m).toNat
  have h2 := belowV_bound z len (0, startH z len) m hm
  unfold drawText
  omega

theorem CodeRow.startS {n₀ : Nat} {w : World} {a : Option Addr} {len cap : Nat} {z : List Int} (hc : CodeRow n₀ w a len z) (hn : n₀ ≤ w.heap.size) :
    Drawn n₀ w.heap.size a len cap z (0, startH z len) (w.alloc (.cells #[.slice a len cap, .int .i64 0, .int .i64 (startH z len)] 47)) :=
  ⟨hc.kept ((Below.refl _ _).alloc hn _), World.alloc_heap_new w _, hn⟩

set_option maxRecDepth 100000 in
theorem drawWords_any (n₀ : Nat) (a : Option Addr) (len cap : Nat) (z : List Int) (w : World) (hc : CodeRow n₀ w a len z) (hn : n₀ ≤ w.heap.size) :
    Calls Try.prog 9 #[.slice a len cap] w fun e w' => e = .returned (.string (drawText wordsP 7 z len)) ∧ Below w.heap.size w w' := by
  have hst := hc.startS (cap := cap) hn
  obtain ⟨b0, b1⟩ := belowV_bound z len (0, startH z len) 7 (by omega)
  obtain ⟨k, hk⟩ := Int.eq_ofNat_of_zero_le b0
  have HK := Lib.hid hk
  have hk7 : k < 7 := by omega
  have HT := Lib.hid (show drawText wordsP 7 z len = (glue wordsP z len (belowS len (0, startH z len) 7) k).2 by unfold drawText; rw [hk]; rfl)
  clear hk b0 b1
  go_enter Try.func9, Try.ntmps9
  go_wp2_with fail
  refine (new_any n₀ a len cap z w hc).mono ?_
  rintro e w1 ⟨rfl, rfl⟩
  go_wp2_with fail
  refine (below_drawn n₀ _ a len cap z _ 7 _ hst).mono ?_
  rintro e w2 ⟨rfl, hd2, hg2⟩
  rw [HK.out]
  have hb2 : Below w.heap.size w w2 := ((Below.refl _ _).alloc (Nat.le_refl _) _).trans (grown_below hg2 (Nat.le_refl _) (by simp))
  clear hg2 hst
  go_wp2
  go_loopw [4, 6] (fun t i wr => ∃ (j : Nat) (S : ByteArray), j ≤ k ∧ S.size ≤ 2 * j ∧ i = .int .i64 j ∧ t = .string S ∧ Drawn n₀ w.heap.size a len cap z (glue wordsP z len (belowS len (0, startH z len) 7) j).1 wr ∧ Below w.heap.size w wr ∧ Hid ((glue wordsP z len (belowS len (0, startH z len) 7) j).2 = S)) (fun _ i _ => k - (intOf i).toNat)
  case atStart => exact ⟨0, ByteArray.empty, Nat.zero_le _, by simp, rfl, rfl, hd2, hb2, Lib.hid rfl⟩
  case round =>
    obtain ⟨j, S, hj, hS, rfl, rfl, hd, hb, H⟩ := hrel
    by_cases hp : j < k
    · have hcells := strs_cells wr wordsP 9
      have hpb : (wordsP[(belowV z len (glue wordsP z len (belowS len (0, startH z len) 7) j).1 6).toNat]?.getD ByteArray.empty).size ≤ 2 := by
        cases hq : wordsP[(belowV z len (glue wordsP z len (belowS len (0, startH z len) 7) j).1 6).toNat]? with
        | none => simp
        | some x => exact wordsP_small x (List.mem_of_getElem? hq)
      have HG := Lib.hid (show (glue wordsP z len (belowS len (0, startH z len) 7) (j + 1)) = (belowS len (glue wordsP z len (belowS len (0, startH z len) 7) j).1 6, (glue wordsP z len (belowS len (0, startH z len) 7) j).2 ++ wordsP[(belowV z len (glue wordsP z len (belowS len (0, startH z len) 7) j).1 6).toNat]?.getD ByteArray.empty) from rfl)
      have HC := Lib.hid hcells
      have hlt := hd.lt
      clear hcells
      go_wp2_with fail
      refine (pick_drawn n₀ w.heap.size a len cap z (glue wordsP z len (belowS len (0, startH z len) 7) j).1 wr.heap.size 6 6 wordsP _ (hd.alloc _) (by omega) (by omega) (by omega) (by simp) (fun i hi => HC.out i hi)).mono ?_
      rintro e w3 ⟨rfl, hd3, hg3⟩
      have hb3 : Below w.heap.size w w3 := (hb.alloc hb.size _).trans (grown_below hg3 (Nat.le_refl _) (by simp; omega))
      clear hg3
      go_wp2
      go_roundw
      case rel => exact ⟨j + 1, _, by omega, by rw [ByteArray.size_append]; exact Nat.le_trans (Nat.add_le_add hS hpb) (by omega), by go_num, rfl, by rw [HG.out]; exact hd3, hb3, Lib.hid (by rw [HG.out, ← H.out])⟩
      case measure => simp [intOf]; omega
    · obtain rfl : j = k := by omega
      go_wp2
      go_ret
      exact ⟨by rw [HT.out, H.out]; rfl, hb⟩

set_option maxRecDepth 100000 in
theorem drawLines_any (n₀ : Nat) (a : Option Addr) (len cap : Nat) (z : List Int) (w : World) (hc : CodeRow n₀ w a len z) (hn : n₀ ≤ w.heap.size) :
    Calls Try.prog 10 #[.slice a len cap] w fun e w' => e = .returned (.string (drawText linesP 6 z len)) ∧ Below w.heap.size w w' := by
  have hst := hc.startS (cap := cap) hn
  obtain ⟨b0, b1⟩ := belowV_bound z len (0, startH z len) 6 (by omega)
  obtain ⟨k, hk⟩ := Int.eq_ofNat_of_zero_le b0
  have HK := Lib.hid hk
  have hk7 : k < 6 := by omega
  have HT := Lib.hid (show drawText linesP 6 z len = (glue linesP z len (belowS len (0, startH z len) 6) k).2 by unfold drawText; rw [hk]; rfl)
  clear hk b0 b1
  go_enter Try.func10, Try.ntmps10
  go_wp2_with fail
  refine (new_any n₀ a len cap z w hc).mono ?_
  rintro e w1 ⟨rfl, rfl⟩
  go_wp2_with fail
  refine (below_drawn n₀ _ a len cap z _ 6 _ hst).mono ?_
  rintro e w2 ⟨rfl, hd2, hg2⟩
  rw [HK.out]
  have hb2 : Below w.heap.size w w2 := ((Below.refl _ _).alloc (Nat.le_refl _) _).trans (grown_below hg2 (Nat.le_refl _) (by simp))
  clear hg2 hst
  go_wp2
  go_loopw [4, 6] (fun t i wr => ∃ (j : Nat) (S : ByteArray), j ≤ k ∧ S.size ≤ 2 * j ∧ i = .int .i64 j ∧ t = .string S ∧ Drawn n₀ w.heap.size a len cap z (glue linesP z len (belowS len (0, startH z len) 6) j).1 wr ∧ Below w.heap.size w wr ∧ Hid ((glue linesP z len (belowS len (0, startH z len) 6) j).2 = S)) (fun _ i _ => k - (intOf i).toNat)
  case atStart => exact ⟨0, ByteArray.empty, Nat.zero_le _, by simp, rfl, rfl, hd2, hb2, Lib.hid rfl⟩
  case round =>
    obtain ⟨j, S, hj, hS, rfl, rfl, hd, hb, H⟩ := hrel
    by_cases hp : j < k
    · have hcells := strs_cells wr linesP 9
      have hpb : (linesP[(belowV z len (glue linesP z len (belowS len (0, startH z len) 6) j).1 5).toNat]?.getD ByteArray.empty).size ≤ 2 := by
        cases hq : linesP[(belowV z len (glue linesP z len (belowS len (0, startH z len) 6) j).1 5).toNat]? with
        | none => simp
        | some x => exact linesP_small x (List.mem_of_getElem? hq)
      have HG := Lib.hid (show (glue linesP z len (belowS len (0, startH z len) 6) (j + 1)) = (belowS len (glue linesP z len (belowS len (0, startH z len) 6) j).1 5, (glue linesP z len (belowS len (0, startH z len) 6) j).2 ++ linesP[(belowV z len (glue linesP z len (belowS len (0, startH z len) 6) j).1 5).toNat]?.getD ByteArray.empty) from rfl)
      have HC := Lib.hid hcells
      have hlt := hd.lt
      clear hcells
      go_wp2_with fail
      refine (pick_drawn n₀ w.heap.size a len cap z (glue linesP z len (belowS len (0, startH z len) 6) j).1 wr.heap.size 5 5 linesP _ (hd.alloc _) (by omega) (by omega) (by omega) (by simp) (fun i hi => HC.out i hi)).mono ?_
      rintro e w3 ⟨rfl, hd3, hg3⟩
      have hb3 : Below w.heap.size w w3 := (hb.alloc hb.size _).trans (grown_below hg3 (Nat.le_refl _) (by simp; omega))
      clear hg3
      go_wp2
      go_roundw
      case rel => exact ⟨j + 1, _, by omega, by rw [ByteArray.size_append]; exact Nat.le_trans (Nat.add_le_add hS hpb) (by omega), by go_num, rfl, by rw [HG.out]; exact hd3, hb3, Lib.hid (by rw [HG.out, ← H.out])⟩
      case measure => simp [intOf]; omega
    · obtain rfl : j = k := by omega
      go_wp2
      go_ret
      exact ⟨by rw [HT.out, H.out]; rfl, hb⟩

end Go.Proofs.Ytcblinodfgdgfaa
