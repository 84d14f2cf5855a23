/-
  Contracts over the program: texts that are drawn: l01Pick, and what DrawWords and DrawLines tell.
-/
import Derived.Test.YtppkcljpfjdlnaaDraw
namespace Go.Proofs.Ytppkcljpfjdlnaa
set_option linter.unusedVariables false
set_option linter.unusedSimpArgs false
open Go.RowKit

theorem strs_cells (w : World) (xs : List ByteArray) (t : TypeId) : ∀ i, i < xs.length → (w.alloc (.cells (xs.map Value.string).toArray t)).cell? ⟨w.heap.size, i, none⟩ = some (.string (xs[i]?.getD ByteArray.empty)) := by
  intro i hi
  rw [World.cell?_alloc_at _ _ _ _ rfl]
  simp [hi]

/-- Pieces that are drawn one behind the other: the state and the text behind i of them. -/
def glue (P : List ByteArray) (z : List Int) (len : Nat) (s : Nat × Int) : Nat → (Nat × Int) × ByteArray
  | 0 => (s, ByteArray.empty)
  | i + 1 => (belowS len (glue P z len s i).1 P.length, (glue P z len s i).2 ++ P[(belowV z len (glue P z len s i).1 P.length).toNat]?.getD ByteArray.empty)

theorem glue_size (P : List ByteArray) (hP : ∀ x ∈ P, x.size ≤ 2) (z : List Int) (len : Nat) (s : Nat × Int) (i : Nat) : (glue P z len s i).2.size ≤ 2 * i := by
  induction i with
  | zero => simp [glue]
  | succ i ih =>
    simp only [glue]
    rw [ByteArray.size_append]
    have : (P[(belowV z len (glue P z len s i).1 P.length).toNat]?.getD ByteArray.empty).size ≤ 2 := by
      cases hq : P[(belowV z len (glue P z len s i).1 P.length).toNat]? with
      | none => simp
      | some x => exact hP x (List.mem_of_getElem? hq)
    omega

def wordsP : List ByteArray := [⟨#[97]⟩, ⟨#[32]⟩, ⟨#[98, 99]⟩, ⟨#[9]⟩, ⟨#[]⟩, ⟨#[10]⟩]
def linesP : List ByteArray := [⟨#[97]⟩, ⟨#[10]⟩, ⟨#[98, 99]⟩, ⟨#[10]⟩, ⟨#[]⟩]
theorem wordsP_small : ∀ x ∈ wordsP, x.size ≤ 2 := by decide
theorem linesP_small : ∀ x ∈ linesP, x.size ≤ 2 := by decide

def drawText (P : List ByteArray) (m : Int) (z : List Int) (len : Nat) : ByteArray := (glue P z len (belowS len (0, startH z len) m) (belowV z len (0, startH z len) m).toNat).2

theorem drawText_size (P : List ByteArray) (hP : ∀ x ∈ P, x.size ≤ 2) (m : Int) (hm : 0 < m) (hm2 : m ≤ 100) (z : List Int) (len : Nat) : (drawText P m z len).size ≤ 200 := by
  have h1 := glue_size P hP z len (belowS len (0, startH z len) m) (belowV z len (0, startH z len) m).toNat
  have h2 := belowV_bound z len (0, startH z len) m hm
  unfold drawText
  omega

theorem CodeRow.startS {n₀ : Nat} {w : World} {a : Option Addr} {len cap : Nat} {z : List Int} (hc : CodeRow n₀ w a len z) (hn : n₀ ≤ w.heap.size) :
    Drawn n₀ w.heap.size a len cap z (0, startH z len) (w.alloc (.cells #[.slice a len cap, .int .i64 0, .int .i64 (startH z len)] 90)) :=
  ⟨hc.kept ((Below.refl _ _).alloc hn _), World.alloc_heap_new w _, hn⟩

end Go.Proofs.Ytppkcljpfjdlnaa
