/-
  Contracts over the program: chapter 2: plain sums, and N and Z.
-/
import Derived.Test.YtckfdbjjjgfbfaaUAluNum
import Derived.Test.YtckfdbjjjgfbfaaRows
import Derived.WalkKit
import Derived.WalkSpells
import Derived.WalkLawsBesides
import Derived.OwnWalk
import Derived.Lib.Hide
import Derived.Below
import Derived.WalkSmall
import Derived.Laws.Pointers
import Derived.Deep.QuietTactic
import Derived.BigQuiet
import Derived.Deep.Draws
import Derived.RegionTactic
import Derived.ChangeAlike
import Derived.RangeFuncRecord
namespace Go.Proofs.Ytckfdbjjjgfbfaa
set_option linter.unusedVariables false
set_option linter.unusedSimpArgs false
open Go.RowKit

/-- A cycle. -/
structure CycN where
  addr : Nat
  data : Nat
  wr : Bool

def CycN.ok (c : CycN) : Prop := c.addr < 65536 ∧ c.data < 256

def cycCells (c : CycN) : List Value := [.int .u16 (c.addr : Int), .int .u8 (c.data : Int), .bool c.wr]

/-- A bus: memory, and the cycles that were. -/
structure BusN where
  mem : List Nat
  log : List CycN

def BusN.spot (b : BusN) (a : Nat) : Nat := a % 65536 % b.mem.length
def BusN.get (b : BusN) (a : Nat) : Nat := b.mem.getD (b.spot a) 0
def BusN.rd (b : BusN) (a : Nat) : BusN := ⟨b.mem, b.log ++ [⟨a % 65536, b.get a, false⟩]⟩
def BusN.put (b : BusN) (a d : Nat) : BusN := ⟨b.mem.set (b.spot a) d, b.log ++ [⟨a % 65536, d, true⟩]⟩

def stk (s : Nat) : Nat := 256 + s % 256
def word (lo hi : Nat) : Nat := lo + 256 * hi

def CpuN.nz (c : CpuN) (x : Nat) : CpuN := { c with N := bit7 x, Z := isZ x }

def idxN (c : CpuN) (m : Int) : Nat := if m = 4 ∨ m = 7 ∨ m = 10 then c.X else if m = 5 ∨ m = 8 ∨ m = 11 then c.Y else 0

/-- The address that a register is added to, and the bus behind the cycles that find it. -/
def baseN (b : BusN) (c : CpuN) (m : Int) : Nat × BusN :=
  let z := b.get (c.PC + 1)
  let b1 := b.rd (c.PC + 1)
  if m = 11 then (word (b1.get z) ((b1.rd z).get ((z + 1) % 256)), (b1.rd z).rd ((z + 1) % 256))
  else (word z (b1.get (c.PC + 2)), b1.rd (c.PC + 2))

def placeN (b : BusN) (c : CpuN) (m k : Int) : Nat × BusN :=
  let z := b.get (c.PC + 1)
  let b1 := b.rd (c.PC + 1)
  if m = 3 then (z, b1)
  else if m = 4 ∨ m = 5 then ((z + idxN c m) % 256, b1.rd z)
  else if m = 10 then (word ((b1.rd z).get ((z + c.X) % 256)) (((b1.rd z).rd ((z + c.X) % 256)).get ((z + c.X + 1) % 256)), ((b1.rd z).rd ((z + c.X) % 256)).rd ((z + c.X + 1) % 256))
  else
    let base := (baseN b c m).1
    let b2 := (baseN b c m).2
    let e := (base + idxN c m) % 65536
    let w := base / 256 * 256 + e % 256
    if m ≠ 6 ∧ (k ≠ 2 ∨ w ≠ e) then (e, b2.rd w) else (e, b2)

def useL (c : CpuN) (l : List UInt8) (m : Nat) : CpuN :=
  if l == [76, 68, 65] then { c with A := m }.nz m
  else if l == [76, 68, 88] then { c with X := m }.nz m
  else if l == [76, 68, 89] then { c with Y := m }.nz m
  else if l == [79, 82, 65] then { c with A := (bits .or .u8 c.A m).toNat }.nz (bits .or .u8 c.A m).toNat
  else if l == [65, 78, 68] then { c with A := (bits .and .u8 c.A m).toNat }.nz (bits .and .u8 c.A m).toNat
  else if l == [69, 79, 82] then { c with A := (bits .xor .u8 c.A m).toNat }.nz (bits .xor .u8 c.A m).toNat
  else if l == [65, 68, 67] then { c with A := (adR c.A m c.D c.C).toNat, N := adN c.A m c.D c.C, V := adV c.A m c.D c.C, Z := adZ c.A m c.C, C := adC c.A m c.D c.C }
  else if l == [83, 66, 67] then { c with A := (sbR c.A m c.D c.C).toNat, N := bit7 (plR c.A (255 - m) c.C), V := plV c.A (255 - m) c.C, Z := isZ (plR c.A (255 - m) c.C), C := plC c.A (255 - m) c.C }
  else if l == [67, 77, 80] then { c with N := bit7 (((c.A : Int) - m) % 256), Z := isZ (((c.A : Int) - m) % 256), C := cmC c.A m }
  else if l == [67, 80, 88] then { c with N := bit7 (((c.X : Int) - m) % 256), Z := isZ (((c.X : Int) - m) % 256), C := cmC c.X m }
  else if l == [67, 80, 89] then { c with N := bit7 (((c.Y : Int) - m) % 256), Z := isZ (((c.Y : Int) - m) % 256), C := cmC c.Y m }
  else if l == [66, 73, 84] then { c with N := bit7 m, V := hasB m 64, Z := isZ (bits .and .u8 c.A m) }
  else c

/-- What an operation makes of a byte, and of C. -/
def chgB (l : List UInt8) (m : Nat) (cC : Bool) : Nat :=
  if l == [65, 83, 76] then (mvR m true false).toNat
  else if l == [76, 83, 82] then (mvR m false false).toNat
  else if l == [82, 79, 76] then (mvR m true cC).toNat
  else if l == [82, 79, 82] then (mvR m false cC).toNat
  else if l == [73, 78, 67] then (m + 1) % 256
  else (m + 255) % 256

def chgC (l : List UInt8) (m : Nat) (cC : Bool) : Bool :=
  if l == [65, 83, 76] then mvC m true
  else if l == [76, 83, 82] then mvC m false
  else if l == [82, 79, 76] then mvC m true
  else if l == [82, 79, 82] then mvC m false
  else cC

def CpuN.chg (c : CpuN) (l : List UInt8) (m : Nat) : CpuN := { c with N := bit7 (chgB l m c.C), Z := isZ (chgB l m c.C), C := chgC l m c.C }

def flagL (c : CpuN) (l : List UInt8) : CpuN :=
  if l == [67, 76, 67] then { c with C := false }
  else if l == [83, 69, 67] then { c with C := true }
  else if l == [67, 76, 73] then { c with I := false }
  else if l == [83, 69, 73] then { c with I := true }
  else if l == [67, 76, 86] then { c with V := false }
  else if l == [67, 76, 68] then { c with D := false }
  else if l == [83, 69, 68] then { c with D := true }
  else c

def regL (c : CpuN) (l : List UInt8) : CpuN :=
  if l == [73, 78, 88] then { c with X := (c.X + 1) % 256 }.nz ((c.X + 1) % 256)
  else if l == [73, 78, 89] then { c with Y := (c.Y + 1) % 256 }.nz ((c.Y + 1) % 256)
  else if l == [68, 69, 88] then { c with X := (c.X + 255) % 256 }.nz ((c.X + 255) % 256)
  else if l == [68, 69, 89] then { c with Y := (c.Y + 255) % 256 }.nz ((c.Y + 255) % 256)
  else if l == [84, 65, 88] then { c with X := c.A }.nz c.A
  else if l == [84, 65, 89] then { c with Y := c.A }.nz c.A
  else if l == [84, 88, 65] then { c with A := c.X }.nz c.X
  else if l == [84, 89, 65] then { c with A := c.Y }.nz c.Y
  else if l == [84, 83, 88] then { c with X := c.S }.nz c.S
  else if l == [84, 88, 83] then { c with S := c.X }
  else c

def impL (c : CpuN) (l : List UInt8) (m : Int) : CpuN :=
  if m = 1 then { c.chg l c.A with A := chgB l c.A c.C } else flagL (regL c l) l

def holdsL (c : CpuN) (l : List UInt8) : Bool :=
  if l == [66, 80, 76] then !c.N
  else if l == [66, 77, 73] then c.N
  else if l == [66, 86, 67] then !c.V
  else if l == [66, 86, 83] then c.V
  else if l == [66, 67, 67] then !c.C
  else if l == [66, 67, 83] then c.C
  else if l == [66, 78, 69] then !c.Z
  else c.Z

def storeL (c : CpuN) (l : List UInt8) : Nat :=
  if l == [83, 84, 88] then c.X else if l == [83, 84, 89] then c.Y else c.A

/-- Three bytes on the stack, and PC by a vector. -/
def pushN (b : BusN) (c : CpuN) (pc : Nat) (brk : Bool) (vec : Nat) : CpuN × BusN :=
  let b3 := ((b.put (stk c.S) (pc / 256 % 256)).put (stk (c.S + 255)) (pc % 256)).put (stk (c.S + 254)) (pkV c.N c.V brk c.D c.I c.Z c.C).toNat
  ({ c with PC := word (b3.get vec) (b3.get (vec + 1)), S := (c.S + 253) % 256, I := true }, (b3.rd vec).rd (vec + 1))

def offN (d : Nat) : Nat := if 128 ≤ d then d + 65280 else d

def branchN (b : BusN) (c : CpuN) (l : List UInt8) : CpuN × BusN :=
  let d := b.get (c.PC + 1)
  let b1 := b.rd (c.PC + 1)
  let pc := (c.PC + 2) % 65536
  if holdsL c l then
    let t := (pc + offN d) % 65536
    let w := pc / 256 * 256 + t % 256
    ({ c with PC := t }, if w = t then b1.rd pc else (b1.rd pc).rd w)
  else ({ c with PC := pc }, b1)

/-- KPush and KPull, behind their second cycle. -/
def holdN (b : BusN) (c : CpuN) (l : List UInt8) : CpuN × BusN :=
  let pc := (c.PC + 1) % 65536
  if l == [80, 72, 65] then ({ c with PC := pc, S := (c.S + 255) % 256 }, b.put (stk c.S) c.A)
  else if l == [80, 72, 80] then ({ c with PC := pc, S := (c.S + 255) % 256 }, b.put (stk c.S) (pkV c.N c.V true c.D c.I c.Z c.C).toNat)
  else
    let d := b.get (stk (c.S + 1))
    let b2 := (b.rd (stk c.S)).rd (stk (c.S + 1))
    if l == [80, 76, 80] then ({ c with PC := pc, S := (c.S + 1) % 256, N := hasB d 128, V := hasB d 64, D := hasB d 8, I := hasB d 4, Z := hasB d 2, C := hasB d 1 }, b2)
    else ({ c with PC := pc, S := (c.S + 1) % 256, A := d }.nz d, b2)

def goN (b : BusN) (c : CpuN) (l : List UInt8) (m : Int) : CpuN × BusN :=
  let z := b.get (c.PC + 1)
  let b1 := b.rd (c.PC + 1)
  if l == [74, 77, 80] then
    let a := word z (b1.get (c.PC + 2))
    let b2 := b1.rd (c.PC + 2)
    if m = 9 then ({ c with PC := word (b2.get a) (b2.get (a / 256 * 256 + (a + 1) % 256)) }, (b2.rd a).rd (a / 256 * 256 + (a + 1) % 256))
    else ({ c with PC := a }, b2)
  else if l == [74, 83, 82] then
    let back := (c.PC + 2) % 65536
    let b4 := ((b1.rd (stk c.S)).put (stk c.S) (back / 256)).put (stk (c.S + 255)) (back % 256)
    ({ c with PC := word z (b4.get (c.PC + 2)), S := (c.S + 254) % 256 }, b4.rd (c.PC + 2))
  else if l == [82, 84, 83] then
    let a := word (b.get (stk (c.S + 1))) (b.get (stk (c.S + 2)))
    ({ c with PC := (a + 1) % 65536, S := (c.S + 2) % 256 }, (((b1.rd (stk c.S)).rd (stk (c.S + 1))).rd (stk (c.S + 2))).rd a)
  else if l == [82, 84, 73] then
    let d := b.get (stk (c.S + 1))
    ({ c with PC := word (b.get (stk (c.S + 2))) (b.get (stk (c.S + 3))), S := (c.S + 3) % 256, N := hasB d 128, V := hasB d 64, D := hasB d 8, I := hasB d 4, Z := hasB d 2, C := hasB d 1 },
      (((b1.rd (stk c.S)).rd (stk (c.S + 1))).rd (stk (c.S + 2))).rd (stk (c.S + 3)))
  else if l == [66, 82, 75] then pushN b1 c ((c.PC + 2) % 65536) true 65534
  else holdN b1 c l

def dataN (b : BusN) (c : CpuN) (code : Nat) : CpuN × BusN :=
  let l := (opName code).toList
  let pc := (c.PC + (opSize code).toNat) % 65536
  if opMode code = 2 then ({ useL c l (b.get (c.PC + 1)) with PC := pc }, b.rd (c.PC + 1))
  else
    let e := (placeN b c (opMode code) (opKind code)).1
    let b1 := (placeN b c (opMode code) (opKind code)).2
    let c1 : CpuN := { c with PC := pc }
    if opKind code = 2 then (useL c1 l (b1.get e), b1.rd e)
    else if opKind code = 3 then (c1, b1.put e (storeL c1 l))
    else (c1.chg l (b1.get e), ((b1.rd e).put e (b1.get e)).put e (chgB l (b1.get e) c1.C))

/-- The operation at PC, its first cycle with it. -/
def opN (b : BusN) (c : CpuN) : CpuN × BusN :=
  let code := b.get c.PC
  let b1 := b.rd c.PC
  let l := (opName code).toList
  if opKind code = 1 then ({ impL c l (opMode code) with PC := (c.PC + 1) % 65536 }, b1.rd (c.PC + 1))
  else if opKind code = 5 then branchN b1 c l
  else if opKind code = 2 ∨ opKind code = 3 ∨ opKind code = 4 then dataN b1 c code
  else goN b1 c l (opMode code)

def serveN (b : BusN) (c : CpuN) (nmi : Bool) : CpuN × BusN :=
  pushN ((b.rd c.PC).rd c.PC) c c.PC false (if nmi then 65530 else 65534)

end Go.Proofs.Ytckfdbjjjgfbfaa

namespace Go.Proofs.Ytckfdbjjjgfbfaa
set_option linter.unusedVariables false
set_option linter.unusedSimpArgs false
open Go.RowKit

theorem bcell {W w1 : World} (hb : Below W.heap.size W w1) : (∀ b o, b < W.heap.size → w1.cell? ⟨b, o, none⟩ = W.cell? ⟨b, o, none⟩) ∧ (∀ b o, b < W.heap.size → w1.frozen? ⟨b, o, none⟩ = W.frozen? ⟨b, o, none⟩) :=
  ⟨fun b o h => hb.cell (p := ⟨b, o, none⟩) h, fun b o h => hb.frozen (p := ⟨b, o, none⟩) h⟩

/-- A box of six cells that was laid ahead of a call: each cell as it was. -/
theorem box6 {w w1 : World} {a0 a1 a2 a3 a4 a5 : Value} {t : TypeId} {o : Obj} (hb : Below ((w.alloc (.cells #[a0, a1, a2, a3, a4, a5] t)).alloc o).heap.size ((w.alloc (.cells #[a0, a1, a2, a3, a4, a5] t)).alloc o) w1) :
    w1.cell? ⟨w.heap.size, 0, none⟩ = some a0 ∧ w1.cell? ⟨w.heap.size, 1, none⟩ = some a1 ∧ w1.cell? ⟨w.heap.size, 2, none⟩ = some a2 ∧ w1.cell? ⟨w.heap.size, 3, none⟩ = some a3 ∧ w1.cell? ⟨w.heap.size, 4, none⟩ = some a4 ∧ w1.cell? ⟨w.heap.size, 5, none⟩ = some a5 ∧ w1.frozen? ⟨w.heap.size, 0, none⟩ = false ∧ w1.frozen? ⟨w.heap.size, 1, none⟩ = false ∧ w1.frozen? ⟨w.heap.size, 2, none⟩ = false ∧ w1.frozen? ⟨w.heap.size, 3, none⟩ = false ∧ w1.frozen? ⟨w.heap.size, 4, none⟩ = false ∧ w1.frozen? ⟨w.heap.size, 5, none⟩ = false := by
  obtain ⟨hc, hf⟩ := bcell hb
  refine ⟨?_, ?_, ?_, ?_, ?_, ?_, ?_, ?_, ?_, ?_, ?_, ?_⟩
  all_goals
    first
    | (rw [hc _ _ (by simp; omega)]; simp [go_sem]; done)
    | (rw [hf _ _ (by simp; omega)]; simp [go_sem]; done)

/-- A block of six cells is kept by what leaves all older blocks alone; its cells. -/
theorem keep6 {W w1 : World} {B : Nat} {a0 a1 a2 a3 a4 a5 : Value} {t : TypeId} (hb : Below W.heap.size W w1) (h : W.heap[B]? = some (.cells #[a0, a1, a2, a3, a4, a5] t (0, 0))) : w1.heap[B]? = some (.cells #[a0, a1, a2, a3, a4, a5] t (0, 0)) :=
  (hb.block B (Array.getElem?_eq_some_iff.1 h).1).trans h

theorem new6 (W : World) {a0 a1 a2 a3 a4 a5 : Value} {t : TypeId} : (W.alloc (.cells #[a0, a1, a2, a3, a4, a5] t)).heap[W.heap.size]? = some (.cells #[a0, a1, a2, a3, a4, a5] t (0, 0)) :=
  World.alloc_heap_new W _

theorem cells6 {w1 : World} {B : Nat} {a0 a1 a2 a3 a4 a5 : Value} {t : TypeId} (h : w1.heap[B]? = some (.cells #[a0, a1, a2, a3, a4, a5] t (0, 0))) :
    B < w1.heap.size ∧ w1.cell? ⟨B, 0, none⟩ = some a0 ∧ w1.cell? ⟨B, 1, none⟩ = some a1 ∧ w1.cell? ⟨B, 2, none⟩ = some a2 ∧ w1.cell? ⟨B, 3, none⟩ = some a3 ∧ w1.cell? ⟨B, 4, none⟩ = some a4 ∧ w1.cell? ⟨B, 5, none⟩ = some a5 := by
  refine ⟨(Array.getElem?_eq_some_iff.1 h).1, ?_, ?_, ?_, ?_, ?_, ?_⟩
  all_goals simp [World.cell?, h]

theorem ret_intA {k : IntKind} {a b : Int} (h : a = b) : Ending.returned (.int k a) = .returned (.int k b) := by rw [h]

theorem ret_bool {a b : Bool} (h : a = b) : Ending.returned (.bool a) = .returned (.bool b) := by rw [h]

theorem l02Bit_any (b : Int) (on : Bool) (w : World) :
    Calls Try.prog 91 #[.bool on, .int .i64 b] w fun e w' => e = .returned (.int .i64 (bI on b)) ∧ w = w' := by
  cases on
  all_goals
    go_enter Try.func91, Try.ntmps91
    go_wp2
    go_ret
    exact ⟨rfl, rfl⟩

theorem l02Over_any (a b s : Int) (w : World) (h0 : 0 ≤ a) (h1 : a ≤ 255) (h2 : 0 ≤ b) (h3 : b ≤ 255) (h4 : 0 ≤ s) (h5 : s ≤ 1000) :
    Calls Try.prog 105 #[.int .i64 a, .int .i64 b, .int .i64 s] w fun e w' => e = .returned (.bool (over a b (s % 256))) ∧ w = w' := by
  have HO := Lib.hid (over_num a b s h0 h1 h2 h3)
  by_cases h : a / 128 % 2 = b / 128 % 2
  · have h6 : (a / 128 % 2 == b / 128 % 2) = true := by simpa using h
    have HH := Lib.hid h
    clear h
    go_enter Try.func105, Try.ntmps105
    go_wp2
    go_ret
    refine ⟨?_, rfl⟩
    rw [HO.out]
    refine ret_bool ?_
    rw [Bool.eq_iff_iff]
    simp [HH.out]
  · have h6 : (a / 128 % 2 == b / 128 % 2) = false := by simpa using h
    have HH := Lib.hid h
    clear h
    go_enter Try.func105, Try.ntmps105
    go_wp2
    go_ret
    refine ⟨?_, rfl⟩
    rw [HO.out]
    simp [HH.out]

theorem specNZ_any (b : Int) (n v d i z c : Bool) (w : World) (_h0 : 0 ≤ b) (_h1 : b ≤ 255) :
    Calls Try.prog 83 #[.int .u8 b, .agg #[.bool n, .bool v, .bool d, .bool i, .bool z, .bool c]] w fun e w' => e = .returned (.agg #[.bool (bit7 b), .bool v, .bool d, .bool i, .bool (isZ b), .bool c]) ∧ Below w.heap.size w w' := by
  go_enter Try.func83, Try.ntmps83
  go_wp2
  refine bodyPost_ret (v := .agg #[.bool (bit7 b), .bool v, .bool d, .bool i, .bool (isZ b), .bool c]) (by simp [results, Try.results83, go_sem, bit7, isZ]) rfl ⟨rfl, ?_⟩
  exact ((Below.refl _ _).alloc (Nat.le_refl _) _).alloc (by simp) _

end Go.Proofs.Ytckfdbjjjgfbfaa
