/-
  Plain facts on hexadecimal numerals and rows of bytes, without any Go.
-/
import Derived.Test.YtblchdmemhhcbaaNum
import Derived.Laws.Concat
import Derived.Laws.MakeOwn
import Derived.Laws.BytesArg
namespace Go.Proofs.Ytblchdmemhhcbaa
set_option linter.unusedVariables false
set_option linter.unusedSimpArgs false

/-- The sign of a digit in base 16. -/
def hexD (i : Nat) : UInt8 := if i < 10 then UInt8.ofNat (48 + i) else UInt8.ofNat (55 + i)

/-- The lowest k digits of n in base 16. -/
def hexL : Nat → Nat → List UInt8
  | 0, _ => []
  | k + 1, n => hexL k (n / 16) ++ [hexD (n % 16)]

theorem hexL_length : ∀ k n, (hexL k n).length = k
  | 0, _ => rfl
  | k + 1, n => by simp [hexL, hexL_length k]

/-- The digits as a text: what HexText is to give. -/
def hexT (n : Int) (d : Int) : List UInt8 := if n < 0 ∨ d < 1 ∨ 8 < d then [] else hexL d.toNat n.toNat

theorem hexT_no (n d : Int) (h : n < 0 ∨ d < 1 ∨ 8 < d) : hexT n d = [] := if_pos h
theorem hexT_yes (n d : Nat) (h1 : 1 ≤ d) (h8 : d ≤ 8) : hexT n d = hexL d n := if_neg (by omega)

theorem hexL_step (k i n : Nat) (L : List UInt8) (h : i < k) : hexL (k - i) n ++ L = hexL (k - (i + 1)) (n / 16) ++ (hexD (n % 16) :: L) := by
  obtain ⟨m, hm⟩ : ∃ m, k - i = m + 1 := ⟨k - i - 1, by omega⟩
  rw [hm, show k - (i + 1) = m by omega, hexL]; simp

abbrev hexS : ByteArray := ⟨#[48, 49, 50, 51, 52, 53, 54, 55, 56, 57, 65, 66, 67, 68, 69, 70]⟩
theorem hexS_piece : ∀ i : Fin 16, hexS.extract i.val (i.val + 1) = ⟨[hexD i.val].toArray⟩ := by decide +kernel
theorem hexS_append (i : Nat) (h : i < 16) (L : List UInt8) : hexS.extract i (i + 1) ++ ByteArray.mk L.toArray = ⟨(hexD i :: L).toArray⟩ := by
  rw [hexS_piece ⟨i, h⟩, ByteArray.mk_append_mk]; rfl
theorem hexS_at : ∀ i : Fin 16, hexS[i.val]'i.isLt = hexD i.val := by decide +kernel

/-- A byte as a cell. -/
def cellOf (b : UInt8) : Value := .int .u8 b.toNat

theorem madeCells_one (v : Value) (n : Nat) : madeCells #[v] n = (List.replicate n v).toArray := by
  apply Array.ext
  · simp [madeCells]
  · intro i h1 h2
    simp [madeCells, Nat.mod_one]

theorem row_set (j : Nat) (L : List UInt8) (b : UInt8) : (List.replicate (j + 1) (Value.int .u8 0) ++ L.map cellOf).toArray.setIfInBounds j (cellOf b) = (List.replicate j (Value.int .u8 0) ++ (b :: L).map cellOf).toArray := by
  apply Array.ext'
  simp only [List.setIfInBounds_toArray]
  rw [List.replicate_succ', List.append_assoc]
  rw [List.set_append_right _ _ (by simp)]
  simp

theorem row_at (j : Nat) (L : List UInt8) : (List.replicate (j + 1) (Value.int .u8 0) ++ L.map cellOf).toArray[j]? = some (.int .u8 0) := by
  simp [List.getElem?_append_left]

theorem strOf_cells (L : List UInt8) : strOfNums (L.map fun b => (b.toNat : Int)) = ⟨L.toArray⟩ := by
  unfold strOfNums
  congr 2
  rw [List.map_map]
  conv => rhs; rw [← List.map_id L]
  apply List.map_congr_left
  intro b _
  simp

end Go.Proofs.Ytblchdmemhhcbaa
