/-
  Contracts over the program: texts that are drawn: l01Pick, and what DrawWords and DrawLines tell.
-/
import Derived.Test.YtffhjoldiicgdaaDraw
namespace Go.Proofs.Ytffhjoldiicgdaa
set_option linter.unusedVariables false
set_option linter.unusedSimpArgs false
open Go.RowKit

set_option maxRecDepth 100000 in
theorem pick_drawn (n₀ B : Nat) (a : Option Addr) (len cap : Nat) (z : List Int) (s : Nat × Int) (g n c : Nat) (xs : List ByteArray) (w : World) (h : Drawn n₀ B a len cap z s w) (hn : 0 < n) (hn2 : n ≤ 1048576) (hgB : g ≠ B) (hg : g < w.heap.size) (hx : ∀ i, i < n → w.cell? ⟨g, i, none⟩ = some (.string (xs[i]?.getD ByteArray.empty))) :
    Calls Try.prog 46 #[.pointer (some ⟨B, 0, none⟩), .slice (some ⟨g, 0, none⟩) n c] w fun e w' => e = .returned (.string (xs[(belowV z len s n).toNat]?.getD ByteArray.empty)) ∧ Drawn n₀ B a len cap z (belowS len s n) w' ∧ w.grownBy w' (some B) := by
  obtain ⟨b0, b1⟩ := belowV_bound z len s n (by omega)
  obtain ⟨k, hk⟩ := Int.eq_ofNat_of_zero_le b0
  have HX := Lib.hid hx
  have HK := Lib.hid hk
  have hkn : k < n := by omega
  clear hx hk
  go_enter Try.func46, Try.ntmps46
  go_wp2_with fail
  refine (below_drawn n₀ B a len cap z s n _ h).mono ?_
  rintro e w1 ⟨rfl, hd1, hg1⟩
  have hc : w1.cell? ⟨g, k, none⟩ = some (.string (xs[k]?.getD ByteArray.empty)) := by
    rw [World.cell?_of_block (hg1.block g hg (fun e => hgB (by cases e; rfl)))]
    exact HX.out k hkn
  clear b0 b1
  rw [HK.out]
  go_wp2
  go_ret
  refine ⟨?_, hd1, hg1⟩
  rw [HK.out]; rfl

theorem strs_cells (w : World) (xs : List ByteArray) (t : TypeId) : ∀ i, i < xs.length → (w.alloc (.cells (xs.map Value.string).toArray t)).cell? ⟨w.heap.size, i, none⟩ = some (.string (xs[i]?.getD ByteArray.empty)) := by
  intro i hi
  rw [World.cell?_alloc_at _ _ _ _ rfl]
  simp [hi]

/-- Pieces that are drawn one behind the other: the state and the text behind i of them. -/
def glue (P : List ByteArray) (z : List Int) (len : Nat) (s : Nat × Int) : Nat → (Nat × Int) × ByteArray
  | 0 => (s, ByteArray.empty)
  | i + 1 => (belowS len (glue P z len s i).1 P.length, (glue P z len s i).2 ++ P[(belowV z len (glue P z len s i).1 P.length).toNat]?.getD ByteArray.empty)

theorem glue_size (P : List ByteArray) (hP : ∀ x ∈ P, x.size ≤ 2) (z : List Int) (len : Nat) (s : Nat × Int) (i : Nat) : (glue P z len s i).2.size ≤ 2 * i := by
  induction i with
  | zero => simp [glue]
  | succ i ih =>
    simp only [glue]
    rw [ByteArray.size_append]
    have : (P[(belowV z len (glue P z len s i).1 P.length).toNat]?.getD ByteArray.empty).size ≤ 2 := by
      cases hq : P[(belowV z len (glue P z len s i).1 P.length).toNat]? with
      | none => simp
      | some x => exact hP x (List.mem_of_getElem? hq)
    omega

def wordsP : List ByteArray := [⟨#[97]⟩, ⟨#[32]⟩, ⟨#[98, 99]⟩, ⟨#[9]⟩, ⟨#[]⟩, ⟨#[10]⟩]
def linesP : List ByteArray := [⟨#[97]⟩, ⟨#[10]⟩, ⟨#[98, 99]⟩, ⟨#[10]⟩, ⟨#[]⟩]
theorem wordsP_small : ∀ x ∈ wordsP, x.size ≤ 2 := by decide
theorem linesP_small : ∀ x ∈ linesP, x.size ≤ 2 := by decide

def drawText (P : List ByteArray) (m : Int) (z : List Int) (len : Nat) : ByteArray := (glue P z len (belowS len (0, startH z len) m) (belowV z len (0, startH z len) m).toNat).2

theorem drawText_size (P : List ByteArray) (hP : ∀ x ∈ P, x.size ≤ 2) (m : Int) (hm : 0 < m) (hm2 : m ≤ 100) (z : List Int) (len : Nat) : (drawText P m z len).size ≤ 200 := by
  have h1 := glue_size P hP z len (belowS len (0, startH z len) m) (belowV z len (0, startH z len) m).toNat
  have h2 := belowV_bound z len (0, startH z len) m hm
  unfold drawText
  omega

theorem CodeRow.startS {n₀ : Nat} {w : World} {a : Option Addr} {len cap : Nat} {z : List Int} (hc : CodeRow n₀ w a len z) (hn : n₀ ≤ w.heap.size) :
    Drawn n₀ w.heap.size a len cap z (0, startH z len) (w.alloc (.cells #[.slice a len cap, .int .i64 0, .int .i64 (startH z len)] 71)) :=
  ⟨hc.kept ((Below.refl _ _).alloc hn _), World.alloc_heap_new w _, hn⟩

end Go.Proofs.Ytffhjoldiicgdaa
