/-
  Plain facts on bytes and flags, without any Go program: what sums, differences and moved bits are.
-/
import Derived.Laws.RangeAny
import Derived.Test.YtckfdbjjjgfbfaaRows
import Derived.WalkKit
import Derived.WalkSpells
import Derived.WalkLawsBesides
import Derived.Lib.Hide
import Derived.Deep.DeepMust
import Derived.Laws.Concat
import Derived.Laws.MakeOwn
import Derived.Laws.BytesArg
import Derived.Test.YtckfdbjjjgfbfaaUSpan
import Derived.Test.YtckfdbjjjgfbfaaProg
import Derived.Laws.BitsAllLaws
import Derived.Laws.BitsLemmas
namespace Go.Proofs.Ytckfdbjjjgfbfaa
set_option linter.unusedVariables false
set_option linter.unusedSimpArgs false

/-- The number of a digit's sign, -1 where it is none. -/
def dig (c : Int) : Int := if 48 ≤ c ∧ c ≤ 57 then c - 48 else if 65 ≤ c ∧ c ≤ 70 then c - 55 else -1

/-- Digits of a base read onto n; -1 where a sign is no digit of the base. -/
def rd (base : Int) : List UInt8 → Int → Int
  | [], n => n
  | c :: r, n => if dig (c.toNat : Int) < 0 ∨ base ≤ dig (c.toNat : Int) then -1 else rd base r (n * base + dig (c.toNat : Int))

end Go.Proofs.Ytckfdbjjjgfbfaa

namespace Go.Proofs.Ytckfdbjjjgfbfaa
set_option linter.unusedVariables false
set_option linter.unusedSimpArgs false
open Go.RowKit

theorem in_any (x a b : Int) (w : World) :
    Calls Try.prog 37 #[.int .i64 x, .int .i64 a, .int .i64 b] w fun e w' => e = .returned (.bool (decide (a ≤ x) && decide (x ≤ b))) ∧ w = w' := by
  go_enter Try.func37, Try.ntmps37
  go_wp2
  all_goals (go_ret; refine ⟨?_, rfl⟩; first | (simp [*]; done) | (simp [*]; omega))

end Go.Proofs.Ytckfdbjjjgfbfaa

namespace Go.Proofs.Ytckfdbjjjgfbfaa
set_option linter.unusedVariables false
set_option linter.unusedSimpArgs false
open Go.RowKit

/-- A processor: five numbers and six flags. -/
structure CpuN where
  A : Nat
  X : Nat
  Y : Nat
  S : Nat
  PC : Nat
  N : Bool
  V : Bool
  D : Bool
  I : Bool
  Z : Bool
  C : Bool

def CpuN.ok (c : CpuN) : Prop := c.A < 256 ∧ c.X < 256 ∧ c.Y < 256 ∧ c.S < 256 ∧ c.PC < 65536

def cpu0 : CpuN := ⟨0, 0, 0, 0, 0, false, false, false, false, false, false⟩
theorem cpu0_ok : cpu0.ok := by unfold CpuN.ok cpu0; simp

abbrev cpuCells (c : CpuN) : Array Value := #[.int .u8 (c.A : Int), .int .u8 (c.X : Int), .int .u8 (c.Y : Int), .int .u8 (c.S : Int), .int .u16 (c.PC : Int), .bool c.N, .bool c.V, .bool c.D, .bool c.I, .bool c.Z, .bool c.C]

abbrev cpuV (c : CpuN) : Value := .agg (cpuCells c)

end Go.Proofs.Ytckfdbjjjgfbfaa

namespace Go.Proofs.Ytckfdbjjjgfbfaa
set_option linter.unusedVariables false
set_option linter.unusedSimpArgs false

/-- A name's letters by its number; 0 is the empty text. -/
def opTx : Nat → ByteArray
  | 1 => ⟨#[79, 82, 65]⟩
  | 2 => ⟨#[65, 78, 68]⟩
  | 3 => ⟨#[69, 79, 82]⟩
  | 4 => ⟨#[65, 68, 67]⟩
  | 5 => ⟨#[83, 84, 65]⟩
  | 6 => ⟨#[76, 68, 65]⟩
  | 7 => ⟨#[67, 77, 80]⟩
  | 8 => ⟨#[83, 66, 67]⟩
  | 9 => ⟨#[65, 83, 76]⟩
  | 10 => ⟨#[82, 79, 76]⟩
  | 11 => ⟨#[76, 83, 82]⟩
  | 12 => ⟨#[82, 79, 82]⟩
  | 13 => ⟨#[83, 84, 88]⟩
  | 14 => ⟨#[76, 68, 88]⟩
  | 15 => ⟨#[68, 69, 67]⟩
  | 16 => ⟨#[73, 78, 67]⟩
  | 17 => ⟨#[84, 88, 65]⟩
  | 18 => ⟨#[84, 65, 88]⟩
  | 19 => ⟨#[68, 69, 88]⟩
  | 20 => ⟨#[78, 79, 80]⟩
  | 21 => ⟨#[84, 88, 83]⟩
  | 22 => ⟨#[84, 83, 88]⟩
  | 23 => ⟨#[83, 84, 89]⟩
  | 24 => ⟨#[76, 68, 89]⟩
  | 25 => ⟨#[67, 80, 89]⟩
  | 26 => ⟨#[67, 80, 88]⟩
  | 27 => ⟨#[66, 82, 75]⟩
  | 28 => ⟨#[74, 83, 82]⟩
  | 29 => ⟨#[82, 84, 73]⟩
  | 30 => ⟨#[82, 84, 83]⟩
  | 31 => ⟨#[66, 73, 84]⟩
  | 32 => ⟨#[74, 77, 80]⟩
  | 33 => ⟨#[80, 72, 80]⟩
  | 34 => ⟨#[80, 76, 80]⟩
  | 35 => ⟨#[80, 72, 65]⟩
  | 36 => ⟨#[80, 76, 65]⟩
  | 37 => ⟨#[68, 69, 89]⟩
  | 38 => ⟨#[84, 65, 89]⟩
  | 39 => ⟨#[73, 78, 89]⟩
  | 40 => ⟨#[73, 78, 88]⟩
  | 41 => ⟨#[66, 80, 76]⟩
  | 42 => ⟨#[66, 77, 73]⟩
  | 43 => ⟨#[66, 86, 67]⟩
  | 44 => ⟨#[66, 86, 83]⟩
  | 45 => ⟨#[66, 67, 67]⟩
  | 46 => ⟨#[66, 67, 83]⟩
  | 47 => ⟨#[66, 78, 69]⟩
  | 48 => ⟨#[66, 69, 81]⟩
  | 49 => ⟨#[67, 76, 67]⟩
  | 50 => ⟨#[83, 69, 67]⟩
  | 51 => ⟨#[67, 76, 73]⟩
  | 52 => ⟨#[83, 69, 73]⟩
  | 53 => ⟨#[84, 89, 65]⟩
  | 54 => ⟨#[67, 76, 86]⟩
  | 55 => ⟨#[67, 76, 68]⟩
  | 56 => ⟨#[83, 69, 68]⟩
  | _ => ⟨#[]⟩

def oneMode : Nat → Int
  | 0 => 10
  | 1 => 3
  | 2 => 2
  | 3 => 6
  | 4 => 11
  | 5 => 4
  | 6 => 8
  | _ => 7

def lateId (r : Nat) : Nat := if r < 4 then 0 else 19 + r

def zeroId : Nat → Nat
  | 0 => 27
  | 1 => 28
  | 2 => 29
  | 3 => 30
  | 4 => 0
  | 5 => 24
  | 6 => 25
  | _ => 26

def zeroMode : Nat → Int
  | 1 => 6
  | 5 => 2
  | 6 => 2
  | 7 => 2
  | _ => 0

def sideOneI (r p : Nat) : Nat := if r = 4 ∧ p = 2 then 0 else 1 + r
def sideOneM (r p : Nat) : Int := if r = 4 ∧ p = 2 then 0 else oneMode p

def sideTwoI (r p : Nat) : Nat :=
  match p with
  | 0 => if r = 5 then 14 else 0
  | 1 => 9 + r
  | 2 => if r < 4 then 9 + r else 13 + r
  | 3 => 9 + r
  | 5 => 9 + r
  | 6 => if r = 4 ∨ r = 5 then 17 + r else 0
  | 7 => if r = 4 then 0 else 9 + r
  | _ => 0

def sideTwoM (r p : Nat) : Int :=
  match p with
  | 0 => if r = 5 then 2 else 0
  | 1 => 3
  | 2 => if r < 4 then 1 else 0
  | 3 => 6
  | 5 => if r = 4 ∨ r = 5 then 5 else 4
  | 7 => if r = 4 then 0 else if r = 5 then 8 else 7
  | _ => 0

def sideZeroI (r p : Nat) : Nat :=
  match p with
  | 0 => zeroId r
  | 1 => if r = 1 then 31 else lateId r
  | 2 => 33 + r
  | 3 => if r = 1 then 31 else if r = 2 ∨ r = 3 then 32 else lateId r
  | 4 => 41 + r
  | 5 => if r = 4 ∨ r = 5 then lateId r else 0
  | 6 => 49 + r
  | 7 => if r = 5 then 24 else 0
  | _ => 0

def sideZeroM (r p : Nat) : Int :=
  match p with
  | 0 => zeroMode r
  | 1 => 3
  | 3 => if r = 3 then 9 else 6
  | 4 => 12
  | 5 => if r = 4 ∨ r = 5 then 4 else 0
  | 7 => if r = 5 then 7 else 0
  | _ => 0

/-- The number of a byte's name. -/
def opId (b : Nat) : Nat :=
  match b % 4 with
  | 0 => sideZeroI (b / 32) (b / 4 % 8)
  | 1 => sideOneI (b / 32) (b / 4 % 8)
  | 2 => sideTwoI (b / 32) (b / 4 % 8)
  | _ => 0

def opRawMode (b : Nat) : Int :=
  match b % 4 with
  | 0 => sideZeroM (b / 32) (b / 4 % 8)
  | 1 => sideOneM (b / 32) (b / 4 % 8)
  | 2 => sideTwoM (b / 32) (b / 4 % 8)
  | _ => 0

def opMode (b : Nat) : Int := if opId b = 0 then -1 else opRawMode b

def opName (b : Nat) : ByteArray := opTx (opId b)

def sizeOfM (m : Int) : Int := if m = 0 ∨ m = 1 then 1 else if m = 6 ∨ m = 7 ∨ m = 8 ∨ m = 9 then 3 else 2

def opSize (b : Nat) : Int := if opId b = 0 then 0 else sizeOfM (opMode b)

/-- A kind by the name's number and the mode. -/
def kindBy (i : Nat) (m : Int) : Int :=
  if i = 0 then 0 else if i = 32 then 6 else if i = 28 then 7 else if i = 30 then 8 else if i = 29 then 9 else if i = 27 then 10
  else if i = 35 ∨ i = 33 then 11 else if i = 36 ∨ i = 34 then 12 else if i = 5 ∨ i = 13 ∨ i = 23 then 3
  else if m = 12 then 5 else if m = 0 ∨ m = 1 then 1
  else if i = 9 ∨ i = 11 ∨ i = 10 ∨ i = 12 ∨ i = 16 ∨ i = 15 then 4 else 2

def opKind (b : Nat) : Int := kindBy (opId b) (opMode b)

/-- A kind by a name's letters and the mode, where there is a name. -/
def kindM (l : List UInt8) (m : Int) : Int :=
  if m == 12 then 5 else if m == 0 then 1 else if m == 1 then 1
  else if l == [65, 83, 76] then 4 else if l == [76, 83, 82] then 4 else if l == [82, 79, 76] then 4 else if l == [82, 79, 82] then 4 else if l == [73, 78, 67] then 4 else if l == [68, 69, 67] then 4 else 2

def kindN (l : List UInt8) (m : Int) : Int :=
  if l == [74, 77, 80] then 6 else if l == [74, 83, 82] then 7 else if l == [82, 84, 83] then 8 else if l == [82, 84, 73] then 9 else if l == [66, 82, 75] then 10
  else if l == [80, 72, 65] then 11 else if l == [80, 72, 80] then 11 else if l == [80, 76, 65] then 12 else if l == [80, 76, 80] then 12
  else if l == [83, 84, 65] then 3 else if l == [83, 84, 88] then 3 else if l == [83, 84, 89] then 3 else kindM l m

def kindL (l : List UInt8) (m : Int) : Int := if l.isEmpty then 0 else kindN l m

theorem byte_all {p : Nat → Prop} (h : ∀ k : Fin 256, p k.1) {b : Nat} (hb : b < 256) : p b := h ⟨b, hb⟩

theorem opId_le {b : Nat} (hb : b < 256) : opId b ≤ 56 := byte_all (p := fun b => opId b ≤ 56) (by decide +kernel) hb

theorem opSize_range {b : Nat} (hb : b < 256) : 0 ≤ opSize b ∧ opSize b ≤ 3 := byte_all (p := fun b => 0 ≤ opSize b ∧ opSize b ≤ 3) (by decide +kernel) hb

theorem kindL_op {b : Nat} (hb : b < 256) : kindL (opName b).data.toList (opMode b) = opKind b := byte_all (p := fun b => kindL (opName b).data.toList (opMode b) = opKind b) (by decide +kernel) hb

end Go.Proofs.Ytckfdbjjjgfbfaa

namespace Go.Proofs.Ytckfdbjjjgfbfaa
set_option linter.unusedVariables false
set_option linter.unusedSimpArgs false

def bit7 (b : Int) : Bool := decide (128 ≤ b)
def isZ (b : Int) : Bool := b == 0
def hasB (b m : Int) : Bool := bits .and .u8 b m != 0
def bI (c : Bool) (x : Int) : Int := if c then x else 0

theorem fin_of {p : Int → Prop} (h : ∀ n : Fin 256, p (n.val : Int)) (b : Int) (h0 : 0 ≤ b) (h1 : b ≤ 255) : p b := by
  have := h ⟨b.toNat, by omega⟩
  simpa [Int.toNat_of_nonneg h0] using this

theorem and15_u8 (b : Int) (h0 : 0 ≤ b) (h1 : b ≤ 255) : bits .and .u8 b 15 = b % 16 :=
  fin_of (p := fun b => bits .and .u8 b 15 = b % 16) (by decide +kernel) b h0 h1

theorem and240_u8 (b : Int) (h0 : 0 ≤ b) (h1 : b ≤ 255) : bits .and .u8 b 240 = b - b % 16 :=
  fin_of (p := fun b => bits .and .u8 b 240 = b - b % 16) (by decide +kernel) b h0 h1

/-- Whether two bytes have one bit 7, and a third one another. -/
def over (a b s : Int) : Bool := (bit7 a == bit7 b) && (bit7 a != bit7 s)

theorem bits_u8_bd (op : BinOp) (x y : Int) : 0 ≤ bits op .u8 x y ∧ bits op .u8 x y ≤ 255 := by
  have h : ∀ n, 0 ≤ IntKind.u8.wrap n ∧ IntKind.u8.wrap n ≤ 255 := fun n => by rw [IntKind.wrap_u8]; omega
  exact h _

theorem over_num (a b s : Int) (h0 : 0 ≤ a) (h1 : a ≤ 255) (h2 : 0 ≤ b) (h3 : b ≤ 255) :
    over a b (s % 256) = (decide (a / 128 % 2 = b / 128 % 2) && decide (a / 128 % 2 ≠ s / 128 % 2)) := by
  unfold over bit7
  rw [Bool.eq_iff_iff]
  simp
  omega

/-- The plain sum, its answer and its flags. -/
def plS (a b : Int) (c : Bool) : Int := a + b + bI c 1
def plR (a b : Int) (c : Bool) : Int := plS a b c % 256
def plC (a b : Int) (c : Bool) : Bool := decide (255 < plS a b c)
def plV (a b : Int) (c : Bool) : Bool := over a b (plR a b c)

theorem bI_bd (c : Bool) (x : Int) (h : 0 ≤ x) : 0 ≤ bI c x ∧ bI c x ≤ x := by cases c <;> simp [bI] <;> omega

theorem and_i64_any (x : Int) (k : Nat) (hk : k < 63) : bits .and .i64 x ((2 ^ k - 1 : Nat) : Int) = ((((x % 18446744073709551616).toNat % 2 ^ k : Nat)) : Int) := by
  have hp : 2 ^ k ≤ 2 ^ 62 := Nat.pow_le_pow_right (by decide) (by omega)
  have h62 : (2 : Nat) ^ 62 = 4611686018427387904 := by decide
  have hx : (x % 18446744073709551616).toNat % 2 ^ k < 2 ^ k := Nat.mod_lt _ (Nat.two_pow_pos k)
  show IntKind.i64.wrap ((BitVec.ofInt 64 x &&& BitVec.ofInt 64 ((2 ^ k - 1 : Nat) : Int)).toNat : Int) = _
  have e1 : (BitVec.ofInt 64 x).toNat = (x % 18446744073709551616).toNat := by rw [BitVec.toNat_ofInt]; rfl
  have e2 : (BitVec.ofInt 64 ((2 ^ k - 1 : Nat) : Int)).toNat = 2 ^ k - 1 := by
    rw [BitVec.ofInt_natCast, BitVec.toNat_ofNat]; exact Nat.mod_eq_of_lt (by omega)
  rw [BitVec.toNat_and, e1, e2, Nat.and_two_pow_sub_one_eq_mod, IntKind.wrap_i64]
  generalize 2 ^ k = m at *
  generalize (x % 18446744073709551616).toNat % m = y at *
  omega

theorem and15_i64 (x : Int) : bits .and .i64 x 15 = x % 16 := by
  have := and_i64_any x 4 (by decide)
  simp only [Nat.reducePow, Nat.reduceSub] at this
  rw [show ((15 : Nat) : Int) = 15 from rfl] at this
  rw [this]
  omega

theorem and255_i64 (x : Int) : bits .and .i64 x 255 = x % 256 := by
  have := and_i64_any x 8 (by decide)
  simp only [Nat.reducePow, Nat.reduceSub] at this
  rw [show ((255 : Nat) : Int) = 255 from rfl] at this
  rw [this]
  omega

/-- The decimal sum: its low half, its high one, and that one behind its correction. -/
def dcS (a b : Int) (c : Bool) : Int := a % 16 + b % 16 + bI c 1
def dcL (a b : Int) (c : Bool) : Int := if 10 ≤ dcS a b c then (dcS a b c + 6) % 16 + 16 else dcS a b c
def dcH (a b : Int) (c : Bool) : Int := (a - a % 16) + (b - b % 16) + dcL a b c
def dcT (a b : Int) (c : Bool) : Int := if 160 ≤ dcH a b c then dcH a b c + 96 else dcH a b c

def adR (a b : Int) (d c : Bool) : Int := if d then dcT a b c % 256 else plR a b c
def adN (a b : Int) (d c : Bool) : Bool := if d then bit7 (dcH a b c % 256) else bit7 (plR a b c)
def adV (a b : Int) (d c : Bool) : Bool := if d then over a b (dcH a b c % 256) else plV a b c
def adZ (a b : Int) (c : Bool) : Bool := isZ (plR a b c)
def adC (a b : Int) (d c : Bool) : Bool := if d then decide (255 < dcT a b c) else plC a b c

/-- The decimal difference. -/
def sbS (a b : Int) (c : Bool) : Int := a % 16 - b % 16 - 1 + bI c 1
def sbL (a b : Int) (c : Bool) : Int := if sbS a b c < 0 then (sbS a b c - 6) % 16 - 16 else sbS a b c
def sbH (a b : Int) (c : Bool) : Int := (a - a % 16) - (b - b % 16) + sbL a b c
def sbT (a b : Int) (c : Bool) : Int := if sbH a b c < 0 then sbH a b c - 96 else sbH a b c

def sbR (a b : Int) (d c : Bool) : Int := if d then sbT a b c % 256 else plR a (255 - b) c

theorem adR_bd (a b : Int) (d c : Bool) : 0 ≤ adR a b d c ∧ adR a b d c ≤ 255 := by
  unfold adR plR; split <;> omega

theorem sbR_bd (a b : Int) (d c : Bool) : 0 ≤ sbR a b d c ∧ sbR a b d c ≤ 255 := by
  unfold sbR plR; split <;> omega

theorem bit7_h (x : Int) : bit7 (x % 256) = (x / 128 % 2 == 1) := by
  unfold bit7
  rw [Bool.eq_iff_iff]
  simp
  omega

/-- A byte moved by a bit, and the bit that fell out. -/
def mvR (b : Int) (up inn : Bool) : Int := if up then b * 2 % 256 + bI inn 1 else b / 2 + bI inn 128
def mvC (b : Int) (up : Bool) : Bool := if up then bit7 b else b % 2 == 1

theorem mvR_bd (b : Int) (up inn : Bool) (h0 : 0 ≤ b) (h1 : b ≤ 255) : 0 ≤ mvR b up inn ∧ mvR b up inn ≤ 255 := by
  unfold mvR bI; cases up <;> cases inn <;> simp <;> omega

def cmC (a b : Int) : Bool := decide (b ≤ a)

/-- The flags' byte. -/
def pkV (n v brk d i z c : Bool) : Int := bI n 128 + bI v 64 + 32 + bI brk 16 + bI d 8 + bI i 4 + bI z 2 + bI c 1

theorem pkV_bd (n v brk d i z c : Bool) : 0 ≤ pkV n v brk d i z c ∧ pkV n v brk d i z c ≤ 255 := by
  cases n <;> cases v <;> cases brk <;> cases d <;> cases i <;> cases z <;> cases c <;> decide

end Go.Proofs.Ytckfdbjjjgfbfaa
