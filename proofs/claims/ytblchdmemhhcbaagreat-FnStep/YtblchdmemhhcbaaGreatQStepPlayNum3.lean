/-
  The program's player in plain numbers: a whole step.
-/
import Derived.Test.YtblchdmemhhcbaaGreatQStepPlayT
import Derived.Test.YtblchdmemhhcbaaGreatQStepStepK
import Derived.Test.YtblchdmemhhcbaaGreatQStepRamQ
import Derived.Test.YtblchdmemhhcbaaGreatQStepAluNum
namespace Go.Proofs.YtblchdmemhhcbaaGreat
set_option linter.unusedVariables false
set_option linter.unusedSimpArgs false
open Go.RowKit

theorem sixteen {W : World} {B : Nat} {t : TypeId} {a0 a1 a2 a3 a4 a5 a6 a7 a8 a9 a10 a11 a12 a13 a14 a15 : Value} (h : BoxN W B t #[a0, a1, a2, a3, a4, a5, a6, a7, a8, a9, a10, a11, a12, a13, a14, a15]) :
    W.cell? ⟨B, 0, none⟩ = some a0 ∧ W.cell? ⟨B, 1, none⟩ = some a1 ∧ W.cell? ⟨B, 2, none⟩ = some a2 ∧ W.cell? ⟨B, 3, none⟩ = some a3 ∧ W.cell? ⟨B, 4, none⟩ = some a4 ∧ W.cell? ⟨B, 5, none⟩ = some a5 ∧ W.cell? ⟨B, 6, none⟩ = some a6 ∧ W.cell? ⟨B, 7, none⟩ = some a7 ∧ W.cell? ⟨B, 8, none⟩ = some a8 ∧ W.cell? ⟨B, 9, none⟩ = some a9 ∧ W.cell? ⟨B, 10, none⟩ = some a10 ∧ W.cell? ⟨B, 11, none⟩ = some a11 ∧ W.cell? ⟨B, 12, none⟩ = some a12 ∧ W.cell? ⟨B, 13, none⟩ = some a13 ∧ W.cell? ⟨B, 14, none⟩ = some a14 ∧ W.cell? ⟨B, 15, none⟩ = some a15 ∧ ∀ k, W.frozen? ⟨B, k, none⟩ = false :=
  ⟨h.cell 0 _ rfl, h.cell 1 _ rfl, h.cell 2 _ rfl, h.cell 3 _ rfl, h.cell 4 _ rfl, h.cell 5 _ rfl, h.cell 6 _ rfl, h.cell 7 _ rfl, h.cell 8 _ rfl, h.cell 9 _ rfl, h.cell 10 _ rfl, h.cell 11 _ rfl, h.cell 12 _ rfl, h.cell 13 _ rfl, h.cell 14 _ rfl, h.cell 15 _ rfl, h.frozen⟩

/-- The box is laid, filled, behind the bus. -/
theorem play_new {W : World} {F G : Nat → Prop} {o : Option Nat} {c : CpuN} {k : OpK} {b : BusN} (hb : BusO W F o b) (hF : ∀ i, i < W.heap.size → F i → G i) (hG : G W.heap.size) (ok : c.ok) :
    PlayAt (W.alloc (.cells (playCells c o k) 74)) G W.heap.size o k ⟨c, b⟩ :=
  ⟨BoxN.new _ _ _, (hb.widen (G := But G W.heap.size) (fun i hi hf => ⟨hF i hi hf, by omega⟩)).below ((Below.refl _ _).alloc (Nat.le_refl _) _), hG, ok⟩

/-- The box was laid ahead of the bus, and is filled behind it. -/
theorem play_old {W : World} {F G : Nat → Prop} {P : Nat} {o : Option Nat} {c : CpuN} {k : OpK} {b : BusN} {cs : Array Value} (hx : BoxN W P 74 cs) (hs : cs.size = 16) (hb : BusO W F o b) (hF : ∀ i, i < W.heap.size → F i → G i) (hP : ¬ F P) (hG : G P) (ok : c.ok) :
    PlayAt ((((((((((((((((W.setCell ⟨P, 0, none⟩ (.int .u8 (c.A : Int))).setCell ⟨P, 1, none⟩ (.int .u8 (c.X : Int))).setCell ⟨P, 2, none⟩ (.int .u8 (c.Y : Int))).setCell ⟨P, 3, none⟩ (.int .u8 (c.S : Int))).setCell ⟨P, 4, none⟩ (.int .u16 (c.PC : Int))).setCell ⟨P, 5, none⟩ (.bool c.N)).setCell ⟨P, 6, none⟩ (.bool c.V)).setCell ⟨P, 7, none⟩ (.bool c.D)).setCell ⟨P, 8, none⟩ (.bool c.I)).setCell ⟨P, 9, none⟩ (.bool c.Z)).setCell ⟨P, 10, none⟩ (.bool c.C)).setCell ⟨P, 11, none⟩ (busV o)).setCell ⟨P, 12, none⟩ (.string k.nm)).setCell ⟨P, 13, none⟩ (.int .i64 k.md)).setCell ⟨P, 14, none⟩ (.int .i64 k.sz)).setCell ⟨P, 15, none⟩ (.int .i64 k.kd)) G P o k ⟨c, b⟩ := by
  obtain ⟨a0, a1, a2, a3, a4, a5, a6, a7, a8, a9, a10, a11, a12, a13, a14, a15, rfl⟩ : ∃ a0 a1 a2 a3 a4 a5 a6 a7 a8 a9 a10 a11 a12 a13 a14 a15, cs = #[a0, a1, a2, a3, a4, a5, a6, a7, a8, a9, a10, a11, a12, a13, a14, a15] := by
    obtain ⟨l⟩ := cs
    match l, hs with
    | [a0, a1, a2, a3, a4, a5, a6, a7, a8, a9, a10, a11, a12, a13, a14, a15], _ => exact ⟨a0, a1, a2, a3, a4, a5, a6, a7, a8, a9, a10, a11, a12, a13, a14, a15, rfl⟩
  have hB : BusO W (But G P) o b := hb.widen (fun i hi hf => ⟨hF i hi hf, fun e => hP (by rw [← e]; exact hf)⟩)
  have hn : ¬ But G P P := fun h => h.2 rfl
  have r1 : BoxN (W.setCell ⟨P, 0, none⟩ (.int .u8 (c.A : Int))) P 74 #[.int .u8 (c.A : Int), a1, a2, a3, a4, a5, a6, a7, a8, a9, a10, a11, a12, a13, a14, a15] := hx.set 0 (.int .u8 (c.A : Int))
  have r2 : BoxN ((W.setCell ⟨P, 0, none⟩ (.int .u8 (c.A : Int))).setCell ⟨P, 1, none⟩ (.int .u8 (c.X : Int))) P 74 #[.int .u8 (c.A : Int), .int .u8 (c.X : Int), a2, a3, a4, a5, a6, a7, a8, a9, a10, a11, a12, a13, a14, a15] := r1.set 1 (.int .u8 (c.X : Int))
  have r3 : BoxN (((W.setCell ⟨P, 0, none⟩ (.int .u8 (c.A : Int))).setCell ⟨P, 1, none⟩ (.int .u8 (c.X : Int))).setCell ⟨P, 2, none⟩ (.int .u8 (c.Y : Int))) P 74 #[.int .u8 (c.A : Int), .int .u8 (c.X : Int), .int .u8 (c.Y : Int), a3, a4, a5, a6, a7, a8, a9, a10, a11, a12, a13, a14, a15] := r2.set 2 (.int .u8 (c.Y : Int))
  have r4 : BoxN ((((W.setCell ⟨P, 0, none⟩ (.int .u8 (c.A : Int))).setCell ⟨P, 1, none⟩ (.int .u8 (c.X : Int))).setCell ⟨P, 2, none⟩ (.int .u8 (c.Y : Int))).setCell ⟨P, 3, none⟩ (.int .u8 (c.S : Int))) P 74 #[.int .u8 (c.A : Int), .int .u8 (c.X : Int), .int .u8 (c.Y : Int), .int .u8 (c.S : Int), a4, a5, a6, a7, a8, a9, a10, a11, a12, a13, a14, a15] := r3.set 3 (.int .u8 (c.S : Int))
  have r5 : BoxN (((((W.setCell ⟨P, 0, none⟩ (.int .u8 (c.A : Int))).setCell ⟨P, 1, none⟩ (.int .u8 (c.X : Int))).setCell ⟨P, 2, none⟩ (.int .u8 (c.Y : Int))).setCell ⟨P, 3, none⟩ (.int .u8 (c.S : Int))).setCell ⟨P, 4, none⟩ (.int .u16 (c.PC : Int))) P 74 #[.int .u8 (c.A : Int), .int .u8 (c.X : Int), .int .u8 (c.Y : Int), .int .u8 (c.S : Int), .int .u16 (c.PC : Int), a5, a6, a7, a8, a9, a10, a11, a12, a13, a14, a15] := r4.set 4 (.int .u16 (c.PC : Int))
  have r6 : BoxN ((((((W.setCell ⟨P, 0, none⟩ (.int .u8 (c.A : Int))).setCell ⟨P, 1, none⟩ (.int .u8 (c.X : Int))).setCell ⟨P, 2, none⟩ (.int .u8 (c.Y : Int))).setCell ⟨P, 3, none⟩ (.int .u8 (c.S : Int))).setCell ⟨P, 4, none⟩ (.int .u16 (c.PC : Int))).setCell ⟨P, 5, none⟩ (.bool c.N)) P 74 #[.int .u8 (c.A : Int), .int .u8 (c.X : Int), .int .u8 (c.Y : Int), .int .u8 (c.S : Int), .int .u16 (c.PC : Int), .bool c.N, a6, a7, a8, a9, a10, a11, a12, a13, a14, a15] := r5.set 5 (.bool c.N)
  have r7 : BoxN (((((((W.setCell ⟨P, 0, none⟩ (.int .u8 (c.A : Int))).setCell ⟨P, 1, none⟩ (.int .u8 (c.X : Int))).setCell ⟨P, 2, none⟩ (.int .u8 (c.Y : Int))).setCell ⟨P, 3, none⟩ (.int .u8 (c.S : Int))).setCell ⟨P, 4, none⟩ (.int .u16 (c.PC : Int))).setCell ⟨P, 5, none⟩ (.bool c.N)).setCell ⟨P, 6, none⟩ (.bool c.V)) P 74 #[.int .u8 (c.A : Int), .int .u8 (c.X : Int), .int .u8 (c.Y : Int), .int .u8 (c.S : Int), .int .u16 (c.PC : Int), .bool c.N, .bool c.V, a7, a8, a9, a10, a11, a12, a13, a14, a15] := r6.set 6 (.bool c.V)
  have r8 : BoxN ((((((((W.setCell ⟨P, 0, none⟩ (.int .u8 (c.A : Int))).setCell ⟨P, 1, none⟩ (.int .u8 (c.X : Int))).setCell ⟨P, 2, none⟩ (.int .u8 (c.Y : Int))).setCell ⟨P, 3, none⟩ (.int .u8 (c.S : Int))).setCell ⟨P, 4, none⟩ (.int .u16 (c.PC : Int))).setCell ⟨P, 5, none⟩ (.bool c.N)).setCell ⟨P, 6, none⟩ (.bool c.V)).setCell ⟨P, 7, none⟩ (.bool c.D)) P 74 #[.int .u8 (c.A : Int), .int .u8 (c.X : Int), .int .u8 (c.Y : Int), .int .u8 (c.S : Int), .int .u16 (c.PC : Int), .bool c.N, .bool c.V, .bool c.D, a8, a9, a10, a11, a12, a13, a14, a15] := r7.set 7 (.bool c.D)
  have r9 : BoxN (((((((((W.setCell ⟨P, 0, none⟩ (.int .u8 (c.A : Int))).setCell ⟨P, 1, none⟩ (.int .u8 (c.X : Int))).setCell ⟨P, 2, none⟩ (.int .u8 (c.Y : Int))).setCell ⟨P, 3, none⟩ (.int .u8 (c.S : Int))).setCell ⟨P, 4, none⟩ (.int .u16 (c.PC : Int))).setCell ⟨P, 5, none⟩ (.bool c.N)).setCell ⟨P, 6, none⟩ (.bool c.V)).setCell ⟨P, 7, none⟩ (.bool c.D)).setCell ⟨P, 8, none⟩ (.bool c.I)) P 74 #[.int .u8 (c.A : Int), .int .u8 (c.X : Int), .int .u8 (c.Y : Int), .int .u8 (c.S : Int), .int .u16 (c.PC : Int), .bool c.N, .bool c.V, .bool c.D, .bool c.I, a9, a10, a11, a12, a13, a14, a15] := r8.set 8 (.bool c.I)
  have r10 : BoxN ((((((((((W.setCell ⟨P, 0, none⟩ (.int .u8 (c.A : Int))).setCell ⟨P, 1, none⟩ (.int .u8 (c.X : Int))).setCell ⟨P, 2, none⟩ (.int .u8 (c.Y : Int))).setCell ⟨P, 3, none⟩ (.int .u8 (c.S : Int))).setCell ⟨P, 4, none⟩ (.int .u16 (c.PC : Int))).setCell ⟨P, 5, none⟩ (.bool c.N)).setCell ⟨P, 6, none⟩ (.bool c.V)).setCell ⟨P, 7, none⟩ (.bool c.D)).setCell ⟨P, 8, none⟩ (.bool c.I)).setCell ⟨P, 9, none⟩ (.bool c.Z)) P 74 #[.int .u8 (c.A : Int), .int .u8 (c.X : Int), .int .u8 (c.Y : Int), .int .u8 (c.S : Int), .int .u16 (c.PC : Int), .bool c.N, .bool c.V, .bool c.D, .bool c.I, .bool c.Z, a10, a11, a12, a13, a14, a15] := r9.set 9 (.bool c.Z)
  have r11 : BoxN (((((((((((W.setCell ⟨P, 0, none⟩ (.int .u8 (c.A : Int))).setCell ⟨P, 1, none⟩ (.int .u8 (c.X : Int))).setCell ⟨P, 2, none⟩ (.int .u8 (c.Y : Int))).setCell ⟨P, 3, none⟩ (.int .u8 (c.S : Int))).setCell ⟨P, 4, none⟩ (.int .u16 (c.PC : Int))).setCell ⟨P, 5, none⟩ (.bool c.N)).setCell ⟨P, 6, none⟩ (.bool c.V)).setCell ⟨P, 7, none⟩ (.bool c.D)).setCell ⟨P, 8, none⟩ (.bool c.I)).setCell ⟨P, 9, none⟩ (.bool c.Z)).setCell ⟨P, 10, none⟩ (.bool c.C)) P 74 #[.int .u8 (c.A : Int), .int .u8 (c.X : Int), .int .u8 (c.Y : Int), .int .u8 (c.S : Int), .int .u16 (c.PC : Int), .bool c.N, .bool c.V, .bool c.D, .bool c.I, .bool c.Z, .bool c.C, a11, a12, a13, a14, a15] := r10.set 10 (.bool c.C)
  have r12 : BoxN ((((((((((((W.setCell ⟨P, 0, none⟩ (.int .u8 (c.A : Int))).setCell ⟨P, 1, none⟩ (.int .u8 (c.X : Int))).setCell ⟨P, 2, none⟩ (.int .u8 (c.Y : Int))).setCell ⟨P, 3, none⟩ (.int .u8 (c.S : Int))).setCell ⟨P, 4, none⟩ (.int .u16 (c.PC : Int))).setCell ⟨P, 5, none⟩ (.bool c.N)).setCell ⟨P, 6, none⟩ (.bool c.V)).setCell ⟨P, 7, none⟩ (.bool c.D)).setCell ⟨P, 8, none⟩ (.bool c.I)).setCell ⟨P, 9, none⟩ (.bool c.Z)).setCell ⟨P, 10, none⟩ (.bool c.C)).setCell ⟨P, 11, none⟩ (busV o)) P 74 #[.int .u8 (c.A : Int), .int .u8 (c.X : Int), .int .u8 (c.Y : Int), .int .u8 (c.S : Int), .int .u16 (c.PC : Int), .bool c.N, .bool c.V, .bool c.D, .bool c.I, .bool c.Z, .bool c.C, busV o, a12, a13, a14, a15] := r11.set 11 (busV o)
  have r13 : BoxN (((((((((((((W.setCell ⟨P, 0, none⟩ (.int .u8 (c.A : Int))).setCell ⟨P, 1, none⟩ (.int .u8 (c.X : Int))).setCell ⟨P, 2, none⟩ (.int .u8 (c.Y : Int))).setCell ⟨P, 3, none⟩ (.int .u8 (c.S : Int))).setCell ⟨P, 4, none⟩ (.int .u16 (c.PC : Int))).setCell ⟨P, 5, none⟩ (.bool c.N)).setCell ⟨P, 6, none⟩ (.bool c.V)).setCell ⟨P, 7, none⟩ (.bool c.D)).setCell ⟨P, 8, none⟩ (.bool c.I)).setCell ⟨P, 9, none⟩ (.bool c.Z)).setCell ⟨P, 10, none⟩ (.bool c.C)).setCell ⟨P, 11, none⟩ (busV o)).setCell ⟨P, 12, none⟩ (.string k.nm)) P 74 #[.int .u8 (c.A : Int), .int .u8 (c.X : Int), .int .u8 (c.Y : Int), .int .u8 (c.S : Int), .int .u16 (c.PC : Int), .bool c.N, .bool c.V, .bool c.D, .bool c.I, .bool c.Z, .bool c.C, busV o, .string k.nm, a13, a14, a15] := r12.set 12 (.string k.nm)
  have r14 : BoxN ((((((((((((((W.setCell ⟨P, 0, none⟩ (.int .u8 (c.A : Int))).setCell ⟨P, 1, none⟩ (.int .u8 (c.X : Int))).setCell ⟨P, 2, none⟩ (.int .u8 (c.Y : Int))).setCell ⟨P, 3, none⟩ (.int .u8 (c.S : Int))).setCell ⟨P, 4, none⟩ (.int .u16 (c.PC : Int))).setCell ⟨P, 5, none⟩ (.bool c.N)).setCell ⟨P, 6, none⟩ (.bool c.V)).setCell ⟨P, 7, none⟩ (.bool c.D)).setCell ⟨P, 8, none⟩ (.bool c.I)).setCell ⟨P, 9, none⟩ (.bool c.Z)).setCell ⟨P, 10, none⟩ (.bool c.C)).setCell ⟨P, 11, none⟩ (busV o)).setCell ⟨P, 12, none⟩ (.string k.nm)).setCell ⟨P, 13, none⟩ (.int .i64 k.md)) P 74 #[.int .u8 (c.A : Int), .int .u8 (c.X : Int), .int .u8 (c.Y : Int), .int .u8 (c.S : Int), .int .u16 (c.PC : Int), .bool c.N, .bool c.V, .bool c.D, .bool c.I, .bool c.Z, .bool c.C, busV o, .string k.nm, .int .i64 k.md, a14, a15] := r13.set 13 (.int .i64 k.md)
  have r15 : BoxN (((((((((((((((W.setCell ⟨P, 0, none⟩ (.int .u8 (c.A : Int))).setCell ⟨P, 1, none⟩ (.int .u8 (c.X : Int))).setCell ⟨P, 2, none⟩ (.int .u8 (c.Y : Int))).setCell ⟨P, 3, none⟩ (.int .u8 (c.S : Int))).setCell ⟨P, 4, none⟩ (.int .u16 (c.PC : Int))).setCell ⟨P, 5, none⟩ (.bool c.N)).setCell ⟨P, 6, none⟩ (.bool c.V)).setCell ⟨P, 7, none⟩ (.bool c.D)).setCell ⟨P, 8, none⟩ (.bool c.I)).setCell ⟨P, 9, none⟩ (.bool c.Z)).setCell ⟨P, 10, none⟩ (.bool c.C)).setCell ⟨P, 11, none⟩ (busV o)).setCell ⟨P, 12, none⟩ (.string k.nm)).setCell ⟨P, 13, none⟩ (.int .i64 k.md)).setCell ⟨P, 14, none⟩ (.int .i64 k.sz)) P 74 #[.int .u8 (c.A : Int), .int .u8 (c.X : Int), .int .u8 (c.Y : Int), .int .u8 (c.S : Int), .int .u16 (c.PC : Int), .bool c.N, .bool c.V, .bool c.D, .bool c.I, .bool c.Z, .bool c.C, busV o, .string k.nm, .int .i64 k.md, .int .i64 k.sz, a15] := r14.set 14 (.int .i64 k.sz)
  have r16 : BoxN ((((((((((((((((W.setCell ⟨P, 0, none⟩ (.int .u8 (c.A : Int))).setCell ⟨P, 1, none⟩ (.int .u8 (c.X : Int))).setCell ⟨P, 2, none⟩ (.int .u8 (c.Y : Int))).setCell ⟨P, 3, none⟩ (.int .u8 (c.S : Int))).setCell ⟨P, 4, none⟩ (.int .u16 (c.PC : Int))).setCell ⟨P, 5, none⟩ (.bool c.N)).setCell ⟨P, 6, none⟩ (.bool c.V)).setCell ⟨P, 7, none⟩ (.bool c.D)).setCell ⟨P, 8, none⟩ (.bool c.I)).setCell ⟨P, 9, none⟩ (.bool c.Z)).setCell ⟨P, 10, none⟩ (.bool c.C)).setCell ⟨P, 11, none⟩ (busV o)).setCell ⟨P, 12, none⟩ (.string k.nm)).setCell ⟨P, 13, none⟩ (.int .i64 k.md)).setCell ⟨P, 14, none⟩ (.int .i64 k.sz)).setCell ⟨P, 15, none⟩ (.int .i64 k.kd)) P 74 #[.int .u8 (c.A : Int), .int .u8 (c.X : Int), .int .u8 (c.Y : Int), .int .u8 (c.S : Int), .int .u16 (c.PC : Int), .bool c.N, .bool c.V, .bool c.D, .bool c.I, .bool c.Z, .bool c.C, busV o, .string k.nm, .int .i64 k.md, .int .i64 k.sz, .int .i64 k.kd] := r15.set 15 (.int .i64 k.kd)
  refine ⟨r16, ?_, hG, ok⟩
  exact (((((((((((((((hB.set _ hn).set _ hn).set _ hn).set _ hn).set _ hn).set _ hn).set _ hn).set _ hn).set _ hn).set _ hn).set _ hn).set _ hn).set _ hn).set _ hn).set _ hn).set _ hn

theorem play_newV {W : World} {F G : Nat → Prop} {o : Option Nat} {c : CpuN} {k : OpK} {b : BusN} {vb vn vm vz vk : Value} (eb : vb = busV o) (en : vn = .string k.nm) (em : vm = .int .i64 k.md) (ez : vz = .int .i64 k.sz) (ek : vk = .int .i64 k.kd) (hb : BusO W F o b) (hF : ∀ i, i < W.heap.size → F i → G i) (hG : G W.heap.size) (ok : c.ok) :
    PlayAt (W.alloc (.cells #[.int .u8 (c.A : Int), .int .u8 (c.X : Int), .int .u8 (c.Y : Int), .int .u8 (c.S : Int), .int .u16 (c.PC : Int), .bool c.N, .bool c.V, .bool c.D, .bool c.I, .bool c.Z, .bool c.C, vb, vn, vm, vz, vk] 74)) G W.heap.size o k ⟨c, b⟩ := by
  subst eb en em ez ek
  exact play_new hb hF hG ok

theorem play_oldV {W : World} {F G : Nat → Prop} {P : Nat} {o : Option Nat} {c : CpuN} {k : OpK} {b : BusN} {cs : Array Value} {vb vn vm vz vk : Value} (eb : vb = busV o) (en : vn = .string k.nm) (em : vm = .int .i64 k.md) (ez : vz = .int .i64 k.sz) (ek : vk = .int .i64 k.kd) (hx : BoxN W P 74 cs) (hs : cs.size = 16) (hb : BusO W F o b) (hF : ∀ i, i < W.heap.size → F i → G i) (hP : ¬ F P) (hG : G P) (ok : c.ok) :
    PlayAt ((((((((((((((((W.setCell ⟨P, 0, none⟩ (.int .u8 (c.A : Int))).setCell ⟨P, 1, none⟩ (.int .u8 (c.X : Int))).setCell ⟨P, 2, none⟩ (.int .u8 (c.Y : Int))).setCell ⟨P, 3, none⟩ (.int .u8 (c.S : Int))).setCell ⟨P, 4, none⟩ (.int .u16 (c.PC : Int))).setCell ⟨P, 5, none⟩ (.bool c.N)).setCell ⟨P, 6, none⟩ (.bool c.V)).setCell ⟨P, 7, none⟩ (.bool c.D)).setCell ⟨P, 8, none⟩ (.bool c.I)).setCell ⟨P, 9, none⟩ (.bool c.Z)).setCell ⟨P, 10, none⟩ (.bool c.C)).setCell ⟨P, 11, none⟩ (vb)).setCell ⟨P, 12, none⟩ (vn)).setCell ⟨P, 13, none⟩ (vm)).setCell ⟨P, 14, none⟩ (vz)).setCell ⟨P, 15, none⟩ (vk)) G P o k ⟨c, b⟩ := by
  subst eb en em ez ek
  exact play_old hx hs hb hF hP hG ok

end Go.Proofs.YtblchdmemhhcbaaGreat

namespace Go.Proofs.YtblchdmemhhcbaaGreat
set_option linter.unusedVariables false
set_option linter.unusedSimpArgs false
open Go.RowKit

theorem Stepped.told {w W wT w' : World} {s : St} {e : Ending} (h : Told W s (w.heap.size + 4) e wT) (hb : Below w.heap.size w W) (hs : Span w.heap.size (w.heap.size + 4) wT w') (hz : w.heap.size + 4 ≤ W.heap.size) : Stepped w (s.c, s.b) e w' := by
  obtain ⟨g, cap, v, rfl, ho, hc, hne, hd⟩ := h
  have hw : Below w.heap.size w wT := bstep hb hd
  have hzT := hd.size
  refine ⟨_, _, rfl, ⟨ho.1, rowUp (OwnB.spanned ho hs (fun j ej => ((World.ownsRow.lt ho.2) j ej).1)).2 (fun j ej => ?_)⟩, ?_, fun j ej => ?_, hw.trans (hs.below (Nat.le_refl _) (by omega))⟩
  · have := ((World.ownsRow.lt ho.2) j ej).1
    omega
  · refine rowUp (n := w.heap.size) (base := w.heap.size + 4) ?_ (fun j ej => by have := ((World.ownsRow.lt hc) j ej).1; omega)
    obtain ⟨h1, h2⟩ := hc
    refine ⟨h1, ?_⟩
    rcases h2 with h2 | ⟨g', cap', cur, rfl, hb', hh, rest⟩
    · exact .inl h2
    · exact .inr ⟨g', cap', cur, rfl, hb', (hs.block g' (Array.getElem?_eq_some_iff.1 hh).1 (.inr hb')).trans hh, rest⟩
  · simp only [Value.ownBlock, Option.some.injEq] at ej
    subst ej
    exact fun e => hne _ e rfl

theorem below_step {n : Nat} {V W w : World} (h : Below n V W) (k : Below W.heap.size W w) (hn : n ≤ V.heap.size) : Below n V w := h.trans (k.mono (Nat.le_trans hn h.size))

theorem cells12 {V W : World} {n B C : Nat} {a0 a1 a2 a3 a4 a5 a6 a7 a8 a9 a10 a11 : Value} (hb : Below n V W) (hB : B < n) (hC : C < n)
    (h : V.cell? ⟨B, 0, none⟩ = some a0 ∧ V.cell? ⟨B, 1, none⟩ = some a1 ∧ V.cell? ⟨B, 2, none⟩ = some a2 ∧ V.cell? ⟨B, 3, none⟩ = some a3 ∧ V.cell? ⟨B, 4, none⟩ = some a4 ∧ V.cell? ⟨B, 5, none⟩ = some a5 ∧ V.cell? ⟨B, 6, none⟩ = some a6 ∧ V.cell? ⟨B, 7, none⟩ = some a7 ∧ V.cell? ⟨B, 8, none⟩ = some a8 ∧ V.cell? ⟨B, 9, none⟩ = some a9 ∧ V.cell? ⟨B, 10, none⟩ = some a10 ∧ V.cell? ⟨C, 0, none⟩ = some a11) :
    W.cell? ⟨B, 0, none⟩ = some a0 ∧ W.cell? ⟨B, 1, none⟩ = some a1 ∧ W.cell? ⟨B, 2, none⟩ = some a2 ∧ W.cell? ⟨B, 3, none⟩ = some a3 ∧ W.cell? ⟨B, 4, none⟩ = some a4 ∧ W.cell? ⟨B, 5, none⟩ = some a5 ∧ W.cell? ⟨B, 6, none⟩ = some a6 ∧ W.cell? ⟨B, 7, none⟩ = some a7 ∧ W.cell? ⟨B, 8, none⟩ = some a8 ∧ W.cell? ⟨B, 9, none⟩ = some a9 ∧ W.cell? ⟨B, 10, none⟩ = some a10 ∧ W.cell? ⟨C, 0, none⟩ = some a11 := by
  obtain ⟨h0, h1, h2, h3, h4, h5, h6, h7, h8, h9, h10, h11⟩ := h
  have e : ∀ (b o : Nat) (v : Value), b < n → V.cell? ⟨b, o, none⟩ = some v → W.cell? ⟨b, o, none⟩ = some v := fun b o v hl hv => (hb.cell (p := ⟨b, o, none⟩) hl).trans hv
  exact ⟨e _ _ _ hB h0, e _ _ _ hB h1, e _ _ _ hB h2, e _ _ _ hB h3, e _ _ _ hB h4, e _ _ _ hB h5, e _ _ _ hB h6, e _ _ _ hB h7, e _ _ _ hB h8, e _ _ _ hB h9, e _ _ _ hB h10, e _ _ _ hC h11⟩

end Go.Proofs.YtblchdmemhhcbaaGreat

namespace Go.Proofs.YtblchdmemhhcbaaGreat
set_option linter.unusedVariables false
set_option linter.unusedSimpArgs false
open Go.RowKit

def St.readP (s : St) (l : List UInt8) (m k : Int) : St := ⟨useL (s.place m k).2.c l ((s.place m k).2.b.get (s.place m k).1), (s.place m k).2.b.rd (s.place m k).1⟩
def St.writeP (s : St) (l : List UInt8) (m k : Int) : St := ⟨(s.place m k).2.c, (s.place m k).2.b.put (s.place m k).1 (storeL (s.place m k).2.c l)⟩
def St.modP (s : St) (l : List UInt8) (m k : Int) : St :=
  let a := (s.place m k).1
  let t := (s.place m k).2
  ⟨t.c.chg l (t.b.get a), ((t.b.rd a).put a (t.b.get a)).put a (chgB l (t.b.get a) t.c.C)⟩
def St.branchP (s : St) (l : List UInt8) : St :=
  if holdsL s.fetch.2.c l then
    ⟨{ s.fetch.2.c with PC := (s.fetch.2.c.PC + offN s.fetch.1) % 65536 },
      if inPage s.fetch.2.c.PC ((s.fetch.2.c.PC + offN s.fetch.1) % 65536) = (s.fetch.2.c.PC + offN s.fetch.1) % 65536 then s.fetch.2.idle.b else s.fetch.2.idle.b.rd (inPage s.fetch.2.c.PC ((s.fetch.2.c.PC + offN s.fetch.1) % 65536))⟩
  else s.fetch.2
def St.jumpP (s : St) (m : Int) : St :=
  if m = 9 then ⟨{ s.fetchW.2.c with PC := (s.fetchW.2.readW s.fetchW.1).1 }, (s.fetchW.2.readW s.fetchW.1).2.b⟩ else ⟨{ s.fetchW.2.c with PC := s.fetchW.1 }, s.fetchW.2.b⟩
def St.subP (s : St) : St :=
  let t := s.fetch.2.idleStk.pushPC
  ⟨{ t.c with PC := word s.fetch.1 (t.b.get t.c.PC) }, t.b.rd t.c.PC⟩
def St.backP (s : St) : St := s.idle.idleStk.pullPC.fetch.2
def St.rtiP (s : St) : St :=
  let t := s.idle.idleStk.pull
  (⟨t.2.c.unpack t.1, t.2.b⟩ : St).pullPC
def St.brkP (s : St) : St := s.fetch.2.inter 65534 true
def St.pushP (s : St) (l : List UInt8) : St := if l == [80, 72, 80] then s.idle.push (s.idle.c.pk true) else s.idle.push s.idle.c.A
def St.pullP (s : St) (l : List UInt8) : St :=
  let t := s.idle.idleStk.pull
  if l == [80, 76, 80] then ⟨t.2.c.unpack t.1, t.2.b⟩ else ⟨{ t.2.c with A := t.1 }.nz t.1, t.2.b⟩

end Go.Proofs.YtblchdmemhhcbaaGreat

namespace Go.Proofs.YtblchdmemhhcbaaGreat
set_option linter.unusedVariables false
set_option linter.unusedSimpArgs false
open Go.RowKit

def St.kindP (f : St) (n : Nat) : St :=
  let l := (opName n).toList
  let m := opMode n
  let q := opKind n
  if q = 1 then ⟨impL f.c l m, f.b.rd f.c.PC⟩
  else if q = 2 then f.readP l m q
  else if q = 3 then f.writeP l m q
  else if q = 4 then f.modP l m q
  else if q = 5 then f.branchP l
  else if q = 6 then f.jumpP m
  else if q = 7 then f.subP
  else if q = 8 then f.backP
  else if q = 9 then f.rtiP
  else if q = 10 then f.brkP
  else if q = 11 then f.pushP l
  else f.pullP l

def St.stepP (s : St) (n : Nat) : St := if opKind n = 0 then s else s.fetch.2.kindP n

end Go.Proofs.YtblchdmemhhcbaaGreat
