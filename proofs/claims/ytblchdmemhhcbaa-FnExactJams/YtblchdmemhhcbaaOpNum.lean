/-
  Operations as plain numbers: every byte's name (by a number of its own, and its three letters), mode, size and kind, by row, part and side.
-/
import Derived.Test.YtblchdmemhhcbaaProg
namespace Go.Proofs.Ytblchdmemhhcbaa
set_option linter.unusedVariables false
set_option linter.unusedSimpArgs false

/-- A name's letters by its number; 0 is the empty text. -/
def opTx : Nat → ByteArray
  | 1 => ⟨#[79, 82, 65]⟩
  | 2 => ⟨#[65, 78, 68]⟩
  | 3 => ⟨#[69, 79, 82]⟩
  | 4 => ⟨#[65, 68, 67]⟩
  | 5 => ⟨#[83, 84, 65]⟩
  | 6 => ⟨#[76, 68, 65]⟩
  | 7 => ⟨#[67, 77, 80]⟩
  | 8 => ⟨#[83, 66, 67]⟩
  | 9 => ⟨#[65, 83, 76]⟩
  | 10 => ⟨#[82, 79, 76]⟩
  | 11 => ⟨#[76, 83, 82]⟩
  | 12 => ⟨#[82, 79, 82]⟩
  | 13 => ⟨#[83, 84, 88]⟩
  | 14 => ⟨#[76, 68, 88]⟩
  | 15 => ⟨#[68, 69, 67]⟩
  | 16 => ⟨#[73, 78, 67]⟩
  | 17 => ⟨#[84, 88, 65]⟩
  | 18 => ⟨#[84, 65, 88]⟩
  | 19 => ⟨#[68, 69, 88]⟩
  | 20 => ⟨#[78, 79, 80]⟩
  | 21 => ⟨#[84, 88, 83]⟩
  | 22 => ⟨#[84, 83, 88]⟩
  | 23 => ⟨#[83, 84, 89]⟩
  | 24 => ⟨#[76, 68, 89]⟩
  | 25 => ⟨#[67, 80, 89]⟩
  | 26 => ⟨#[67, 80, 88]⟩
  | 27 => ⟨#[66, 82, 75]⟩
  | 28 => ⟨#[74, 83, 82]⟩
  | 29 => ⟨#[82, 84, 73]⟩
  | 30 => ⟨#[82, 84, 83]⟩
  | 31 => ⟨#[66, 73, 84]⟩
  | 32 => ⟨#[74, 77, 80]⟩
  | 33 => ⟨#[80, 72, 80]⟩
  | 34 => ⟨#[80, 76, 80]⟩
  | 35 => ⟨#[80, 72, 65]⟩
  | 36 => ⟨#[80, 76, 65]⟩
  | 37 => ⟨#[68, 69, 89]⟩
  | 38 => ⟨#[84, 65, 89]⟩
  | 39 => ⟨#[73, 78, 89]⟩
  | 40 => ⟨#[73, 78, 88]⟩
  | 41 => ⟨#[66, 80, 76]⟩
  | 42 => ⟨#[66, 77, 73]⟩
  | 43 => ⟨#[66, 86, 67]⟩
  | 44 => ⟨#[66, 86, 83]⟩
  | 45 => ⟨#[66, 67, 67]⟩
  | 46 => ⟨#[66, 67, 83]⟩
  | 47 => ⟨#[66, 78, 69]⟩
  | 48 => ⟨#[66, 69, 81]⟩
  | 49 => ⟨#[67, 76, 67]⟩
  | 50 => ⟨#[83, 69, 67]⟩
  | 51 => ⟨#[67, 76, 73]⟩
  | 52 => ⟨#[83, 69, 73]⟩
  | 53 => ⟨#[84, 89, 65]⟩
  | 54 => ⟨#[67, 76, 86]⟩
  | 55 => ⟨#[67, 76, 68]⟩
  | 56 => ⟨#[83, 69, 68]⟩
  | _ => ⟨#[]⟩

def oneMode : Nat → Int
  | 0 => 10
  | 1 => 3
  | 2 => 2
  | 3 => 6
  | 4 => 11
  | 5 => 4
  | 6 => 8
  | _ => 7

def lateId (r : Nat) : Nat := if r < 4 then 0 else 19 + r

def zeroId : Nat → Nat
  | 0 => 27
  | 1 => 28
  | 2 => 29
  | 3 => 30
  | 4 => 0
  | 5 => 24
  | 6 => 25
  | _ => 26

def zeroMode : Nat → Int
  | 1 => 6
  | 5 => 2
  | 6 => 2
  | 7 => 2
  | _ => 0

def sideOneI (r p : Nat) : Nat := if r = 4 ∧ p = 2 then 0 else 1 + r
def sideOneM (r p : Nat) : Int := if r = 4 ∧ p = 2 then 0 else oneMode p

def sideTwoI (r p : Nat) : Nat :=
  match p with
  | 0 => if r = 5 then 14 else 0
  | 1 => 9 + r
  | 2 => if r < 4 then 9 + r else 13 + r
  | 3 => 9 + r
  | 5 => 9 + r
  | 6 => if r = 4 ∨ r = 5 then 17 + r else 0
  | 7 => if r = 4 then 0 else 9 + r
  | _ => 0

def sideTwoM (r p : Nat) : Int :=
  match p with
  | 0 => if r = 5 then 2 else 0
  | 1 => 3
  | 2 => if r < 4 then 1 else 0
  | 3 => 6
  | 5 => if r = 4 ∨ r = 5 then 5 else 4
  | 7 => if r = 4 then 0 else if r = 5 then 8 else 7
  | _ => 0

def sideZeroI (r p : Nat) : Nat :=
  match p with
  | 0 => zeroId r
  | 1 => if r = 1 then 31 else lateId r
  | 2 => 33 + r
  | 3 => if r = 1 then 31 else if r = 2 ∨ r = 3 then 32 else lateId r
  | 4 => 41 + r
  | 5 => if r = 4 ∨ r = 5 then lateId r else 0
  | 6 => 49 + r
  | 7 => if r = 5 then 24 else 0
  | _ => 0

def sideZeroM (r p : Nat) : Int :=
  match p with
  | 0 => zeroMode r
  | 1 => 3
  | 3 => if r = 3 then 9 else 6
  | 4 => 12
  | 5 => if r = 4 ∨ r = 5 then 4 else 0
  | 7 => if r = 5 then 7 else 0
  | _ => 0

/-- The number of a byte's name. -/
def opId (b : Nat) : Nat :=
  match b % 4 with
  | 0 => sideZeroI (b / 32) (b / 4 % 8)
  | 1 => sideOneI (b / 32) (b / 4 % 8)
  | 2 => sideTwoI (b / 32) (b / 4 % 8)
  | _ => 0

def opRawMode (b : Nat) : Int :=
  match b % 4 with
  | 0 => sideZeroM (b / 32) (b / 4 % 8)
  | 1 => sideOneM (b / 32) (b / 4 % 8)
  | 2 => sideTwoM (b / 32) (b / 4 % 8)
  | _ => 0

def opMode (b : Nat) : Int := if opId b = 0 then -1 else opRawMode b

def opName (b : Nat) : ByteArray := opTx (opId b)

def sizeOfM (m : Int) : Int := if m = 0 ∨ m = 1 then 1 else if m = 6 ∨ m = 7 ∨ m = 8 ∨ m = 9 then 3 else 2

def opSize (b : Nat) : Int := if opId b = 0 then 0 else sizeOfM (opMode b)

/-- A kind by the name's number and the mode. -/
def kindBy (i : Nat) (m : Int) : Int :=
  if i = 0 then 0 else if i = 32 then 6 else if i = 28 then 7 else if i = 30 then 8 else if i = 29 then 9 else if i = 27 then 10
  else if i = 35 ∨ i = 33 then 11 else if i = 36 ∨ i = 34 then 12 else if i = 5 ∨ i = 13 ∨ i = 23 then 3
  else if m = 12 then 5 else if m = 0 ∨ m = 1 then 1
  else if i = 9 ∨ i = 11 ∨ i = 10 ∨ i = 12 ∨ i = 16 ∨ i = 15 then 4 else 2

def opKind (b : Nat) : Int := kindBy (opId b) (opMode b)

/-- A kind by a name's letters and the mode, where there is a name. -/
def kindM (l : List UInt8) (m : Int) : Int :=
  if m == 12 then 5 else if m == 0 then 1 else if m == 1 then 1
  else if l == [65, 83, 76] then 4 else if l == [76, 83, 82] then 4 else if l == [82, 79, 76] then 4 else if l == [82, 79, 82] then 4 else if l == [73, 78, 67] then 4 else if l == [68, 69, 67] then 4 else 2

def kindN (l : List UInt8) (m : Int) : Int :=
  if l == [74, 77, 80] then 6 else if l == [74, 83, 82] then 7 else if l == [82, 84, 83] then 8 else if l == [82, 84, 73] then 9 else if l == [66, 82, 75] then 10
  else if l == [80, 72, 65] then 11 else if l == [80, 72, 80] then 11 else if l == [80, 76, 65] then 12 else if l == [80, 76, 80] then 12
  else if l == [83, 84, 65] then 3 else if l == [83, 84, 88] then 3 else if l == [83, 84, 89] then 3 else kindM l m

def kindL (l : List UInt8) (m : Int) : Int := if l.isEmpty then 0 else kindN l m

theorem byte_all {p : Nat → Prop} (h : ∀ k : Fin 256, p k.1) {b : Nat} (hb : b < 256) : p b := h ⟨b, hb⟩

theorem opId_le {b : Nat} (hb : b < 256) : opId b ≤ 56 := byte_all (p := fun b => opId b ≤ 56) (by decide +kernel) hb

theorem opTx_size {i : Nat} (hi : i ≤ 56) : (opTx i).size = if i = 0 then 0 else 3 := by
  have h : ∀ k : Fin 57, (opTx k.1).size = if k.1 = 0 then 0 else 3 := by decide +kernel
  exact h ⟨i, by omega⟩

theorem opTx_eq {i j : Nat} (hi : i ≤ 56) (hj : j ≤ 56) : (opTx i == opTx j) = decide (i = j) := by
  have h : ∀ k l : Fin 57, (opTx k.1 == opTx l.1) = decide (k.1 = l.1) := by decide +kernel
  exact h ⟨i, by omega⟩ ⟨j, by omega⟩

theorem opMode_range {b : Nat} (hb : b < 256) : -1 ≤ opMode b ∧ opMode b ≤ 12 := byte_all (p := fun b => -1 ≤ opMode b ∧ opMode b ≤ 12) (by decide +kernel) hb

theorem opSize_range {b : Nat} (hb : b < 256) : 0 ≤ opSize b ∧ opSize b ≤ 3 := byte_all (p := fun b => 0 ≤ opSize b ∧ opSize b ≤ 3) (by decide +kernel) hb

theorem opKind_range {b : Nat} (hb : b < 256) : 0 ≤ opKind b ∧ opKind b ≤ 12 := byte_all (p := fun b => 0 ≤ opKind b ∧ opKind b ≤ 12) (by decide +kernel) hb

theorem kindL_op {b : Nat} (hb : b < 256) : kindL (opName b).data.toList (opMode b) = opKind b := byte_all (p := fun b => kindL (opName b).data.toList (opMode b) = opKind b) (by decide +kernel) hb

theorem opTx_data {i j : Nat} (hi : i ≤ 56) (hj : j ≤ 56) : ((opTx i).data.toList == (opTx j).data.toList) = decide (i = j) := by
  have h : ∀ k l : Fin 57, ((opTx k.1).data.toList == (opTx l.1).data.toList) = decide (k.1 = l.1) := by decide +kernel
  exact h ⟨i, by omega⟩ ⟨j, by omega⟩

end Go.Proofs.Ytblchdmemhhcbaa
