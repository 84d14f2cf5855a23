/-
  Operations as texts, as plain numbers and texts: without any Go program.
-/
import Derived.Test.YtppkcljpfjdlnaaOpNum
import Derived.Test.YtppkcljpfjdlnaaHexNum
import Derived.Laws.BitsLemmas
namespace Go.Proofs.Ytppkcljpfjdlnaa
set_option linter.unusedVariables false
set_option linter.unusedSimpArgs false

theorem i64_and65535 (n : Int) : bits .and .i64 n 65535 = n % 65536 := by
  have h : (BitVec.ofInt 64 65535).toNat = 2 ^ 16 - 1 := by decide
  have key : (BitVec.ofInt 64 n &&& BitVec.ofInt 64 65535).toNat = (n % ((2 ^ 64 : Nat) : Int)).toNat % 2 ^ 16 := by
    rw [BitVec.toNat_and, BitVec.toNat_ofInt, h, Nat.and_two_pow_sub_one_eq_mod]
  show IntKind.i64.wrap ((BitVec.ofInt 64 n &&& BitVec.ofInt 64 65535).toNat : Nat) = n % 65536
  rw [key, IntKind.wrap_i64]
  omega

theorem i64_and255 (n : Int) : bits .and .i64 n 255 = n % 256 := by
  have h : (BitVec.ofInt 64 255).toNat = 2 ^ 8 - 1 := by decide
  have key : (BitVec.ofInt 64 n &&& BitVec.ofInt 64 255).toNat = (n % ((2 ^ 64 : Nat) : Int)).toNat % 2 ^ 8 := by
    rw [BitVec.toNat_and, BitVec.toNat_ofInt, h, Nat.and_two_pow_sub_one_eq_mod]
  show IntKind.i64.wrap ((BitVec.ofInt 64 n &&& BitVec.ofInt 64 255).toNat : Nat) = n % 256
  rw [key, IntKind.wrap_i64]
  omega

def offB (x : Nat) : Int := if 128 ≤ x then (x : Int) - 256 else x
def relAt (pc x : Nat) : Nat := (((pc : Int) + 2 + offB x) % 65536).toNat
def oneTx (x : Nat) : ByteArray := ⟨#[36]⟩ ++ ⟨(hexL 2 x).toArray⟩
def twoTx (x y : Nat) : ByteArray := ⟨#[36]⟩ ++ ⟨(hexL 4 (x + 256 * y)).toArray⟩
def relTx (pc x : Nat) : ByteArray := ⟨(hexL 4 (relAt pc x)).toArray⟩

/-- An operation's text by its name, what stands behind it, and its mode. -/
def asmText (nm one two rel : ByteArray) (m : Int) : ByteArray :=
  if m == 1 then nm ++ ⟨#[32, 65]⟩ else if m == 2 then nm ++ ⟨#[32, 35]⟩ ++ one else if m == 3 then nm ++ ⟨#[32]⟩ ++ one
  else if m == 4 then nm ++ ⟨#[32]⟩ ++ one ++ ⟨#[44, 88]⟩ else if m == 5 then nm ++ ⟨#[32]⟩ ++ one ++ ⟨#[44, 89]⟩
  else if m == 6 then nm ++ ⟨#[32]⟩ ++ two else if m == 7 then nm ++ ⟨#[32]⟩ ++ two ++ ⟨#[44, 88]⟩ else if m == 8 then nm ++ ⟨#[32]⟩ ++ two ++ ⟨#[44, 89]⟩
  else if m == 9 then nm ++ ⟨#[32, 40]⟩ ++ two ++ ⟨#[41]⟩ else if m == 10 then nm ++ ⟨#[32, 40]⟩ ++ one ++ ⟨#[44, 88, 41]⟩ else if m == 11 then nm ++ ⟨#[32, 40]⟩ ++ one ++ ⟨#[41, 44, 89]⟩
  else if m == 12 then nm ++ ⟨#[32, 36]⟩ ++ rel else nm

def showTx (x0 x1 x2 pc : Nat) : ByteArray := asmText (opName x0) (oneTx x1) (twoTx x1 x2) (relTx pc x1) (opMode x0)

/-- ShowOp of n bytes, of which the first three are told. -/
def showOp (n x0 x1 x2 pc : Nat) : ByteArray := if n = 0 ∨ opSize x0 = 0 ∨ (n : Int) < opSize x0 then ByteArray.empty else showTx x0 x1 x2 pc

theorem hexL_size (d k : Nat) : (ByteArray.mk (hexL d k).toArray).size = d := by simp [ByteArray.size, hexL_length]

theorem oneTx_size (x : Nat) : (oneTx x).size = 3 := by rw [oneTx, ByteArray.size_append, hexL_size]; rfl
theorem twoTx_size (x y : Nat) : (twoTx x y).size = 5 := by rw [twoTx, ByteArray.size_append, hexL_size]; rfl
theorem relTx_size (pc x : Nat) : (relTx pc x).size = 4 := hexL_size _ _

theorem offB_range {x : Nat} (h : x < 256) : -128 ≤ offB x ∧ offB x ≤ 127 := by unfold offB; split <;> omega
theorem relAt_lt (pc x : Nat) : relAt pc x < 65536 := by unfold relAt; omega

theorem sizes {b : Nat} (hb : b < 256) : (opSize b = 1 → opMode b = 0 ∨ opMode b = 1) ∧ (opSize b = 2 → opMode b = 2 ∨ opMode b = 3 ∨ opMode b = 4 ∨ opMode b = 5 ∨ opMode b = 10 ∨ opMode b = 11 ∨ opMode b = 12) ∧ (opSize b = 3 → opMode b = 6 ∨ opMode b = 7 ∨ opMode b = 8 ∨ opMode b = 9) :=
  byte_all (p := fun b => (opSize b = 1 → opMode b = 0 ∨ opMode b = 1) ∧ (opSize b = 2 → opMode b = 2 ∨ opMode b = 3 ∨ opMode b = 4 ∨ opMode b = 5 ∨ opMode b = 10 ∨ opMode b = 11 ∨ opMode b = 12) ∧ (opSize b = 3 → opMode b = 6 ∨ opMode b = 7 ∨ opMode b = 8 ∨ opMode b = 9)) (by decide +kernel) hb

end Go.Proofs.Ytppkcljpfjdlnaa
