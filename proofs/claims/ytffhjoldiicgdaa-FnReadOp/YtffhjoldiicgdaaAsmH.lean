/-
  Contracts over the program: the number that an operation's text shows (impl.shownNumber).
-/
import Derived.Test.YtffhjoldiicgdaaAsmA
import Derived.Test.YtffhjoldiicgdaaAsmG
import Derived.Deep.QuietTactic
import Derived.BigQuiet
import Derived.Test.YtffhjoldiicgdaaOpJ
namespace Go.Proofs.Ytffhjoldiicgdaa
set_option linter.unusedVariables false
set_option linter.unusedSimpArgs false
open Go.RowKit

/-- The number that is shown, by size and mode. -/
def shownN (z m : Int) (x1 x2 pc : Nat) : Nat := if z = 1 then 0 else if m = 12 then relAt pc x1 else if z = 2 then x1 else x1 + 256 * x2

theorem or_word {x y : Nat} (hx : x < 256) (hy : y < 256) : bits .or .u16 ((y : Int) * 256) (x : Int) = ((x + 256 * y : Nat) : Int) := by
  have e1 : (BitVec.ofInt 16 ((y : Int) * 256)).toNat = 2 ^ 8 * y := by rw [BitVec.toNat_ofInt]; omega
  have e2 : (BitVec.ofInt 16 (x : Int)).toNat = x := by rw [BitVec.toNat_ofInt]; omega
  have key : (BitVec.ofInt 16 ((y : Int) * 256) ||| BitVec.ofInt 16 (x : Int)).toNat = 2 ^ 8 * y + x := by
    rw [BitVec.toNat_or, e1, e2, Nat.two_pow_add_eq_or_of_lt (by omega)]
  show IntKind.u16.wrap ((BitVec.ofInt 16 ((y : Int) * 256) ||| BitVec.ofInt 16 (x : Int)).toNat : Nat) = _
  rw [key]
  simp only [IntKind.wrap, IntKind.bits, IntKind.signed]
  simp
  omega

theorem rel_wrap {pc x1 : Nat} (h1 : x1 < 256) (hp : pc < 65536) : wrap64 (IntKind.u16.wrap (IntKind.u16.wrap ((pc : Int) + 2) + IntKind.u16.wrap (IntKind.i8.wrap (x1 : Int)))) = ((relAt pc x1 : Nat) : Int) := by
  have e : IntKind.i8.wrap (x1 : Int) = offB x1 := by
    simp only [IntKind.wrap, IntKind.bits, IntKind.signed, offB]
    simp
    split <;> split <;> omega
  rw [e]
  have w16 : ∀ n : Int, IntKind.u16.wrap n = n % 65536 := fun n => by simp [IntKind.wrap, IntKind.bits, IntKind.signed]
  rw [w16, w16, w16, relAt, wrap64]
  omega

set_option maxRecDepth 100000 in
theorem wordOf_any (x y : Nat) (hx : x < 256) (hy : y < 256) (w : World) :
    Calls Try.prog 63 #[.int .u8 x, .int .u8 y] w fun e w' => e = .returned (.int .u16 ((x + 256 * y : Nat) : Int)) ∧ w = w' := by
  go_enter Try.func63, Try.ntmps63
  go_wp2
  go_ret
  exact ⟨congrArg (fun v => Ending.returned (Value.int .u16 v)) (or_word hx hy), rfl⟩

set_option maxRecDepth 100000 in
theorem shown_one (g o n c pc : Nat) (nm : ByteArray) (m z k : Int) (hz : (z == 1) = true) (w : World) :
    Calls Try.prog 34 #[.slice (some ⟨g, o, none⟩) n c, .agg #[.string nm, .int .i64 m, .int .i64 z, .int .i64 k], .int .u16 pc] w fun e w' => e = .returned (.int .i64 0) ∧ Below w.heap.size w w' := by
  go_enter Try.func34, Try.ntmps34
  go_wp2
  go_ret
  exact ⟨rfl, (Below.refl _ _).alloc (Nat.le_refl _) _⟩

set_option maxRecDepth 100000 in
theorem shown_two (g o n c pc x1 : Nat) (nm : ByteArray) (m z k : Int) (hz1 : (z == 1) = false) (hm : (m == 12) = false) (hz : (z == 2) = true) (hn : (1 : Int) < n) (h1 : x1 < 256) (w : World) (hg : g < w.heap.size) (c1 : w.cell? ⟨g, o + 1, none⟩ = some (.int .u8 x1)) :
    Calls Try.prog 34 #[.slice (some ⟨g, o, none⟩) n c, .agg #[.string nm, .int .i64 m, .int .i64 z, .int .i64 k], .int .u16 pc] w fun e w' => e = .returned (.int .i64 x1) ∧ Below w.heap.size w w' := by
  have i1 : (0 : Int) ≤ 1 ∧ (1 : Int) < n := by omega
  have d1 : (w.alloc (.cells #[.string nm, .int .i64 m, .int .i64 z, .int .i64 k] 49)).cell? ⟨g, o + 1, none⟩ = some (.int .u8 x1) := cellKept ((Below.refl _ _).alloc (Nat.le_refl _) _) c1 hg
  go_enter Try.func34, Try.ntmps34
  go_wp2
  go_ret
  exact ⟨rfl, (Below.refl _ _).alloc (Nat.le_refl _) _⟩

set_option maxRecDepth 100000 in
theorem shown_three (g o n c pc x1 x2 : Nat) (nm : ByteArray) (m z k : Int) (hz1 : (z == 1) = false) (hm : (m == 12) = false) (hz : (z == 2) = false) (hn : (2 : Int) < n) (h1 : x1 < 256) (h2 : x2 < 256) (w : World) (hg : g < w.heap.size) (c1 : w.cell? ⟨g, o + 1, none⟩ = some (.int .u8 x1)) (c2 : w.cell? ⟨g, o + 2, none⟩ = some (.int .u8 x2)) :
    Calls Try.prog 34 #[.slice (some ⟨g, o, none⟩) n c, .agg #[.string nm, .int .i64 m, .int .i64 z, .int .i64 k], .int .u16 pc] w fun e w' => e = .returned (.int .i64 ((x1 + 256 * x2 : Nat) : Int)) ∧ Below w.heap.size w w' := by
  have i1 : (0 : Int) ≤ 1 ∧ (1 : Int) < n := by omega
  have i2 : (0 : Int) ≤ 2 ∧ (2 : Int) < n := by omega
  have d1 : (w.alloc (.cells #[.string nm, .int .i64 m, .int .i64 z, .int .i64 k] 49)).cell? ⟨g, o + 1, none⟩ = some (.int .u8 x1) := cellKept ((Below.refl _ _).alloc (Nat.le_refl _) _) c1 hg
  have d2 : (w.alloc (.cells #[.string nm, .int .i64 m, .int .i64 z, .int .i64 k] 49)).cell? ⟨g, o + 2, none⟩ = some (.int .u8 x2) := cellKept ((Below.refl _ _).alloc (Nat.le_refl _) _) c2 hg
  go_enter Try.func34, Try.ntmps34
  go_wp2_with fail
  go_quiet (first | (go_at_call 63; exact Calls.quiet_of_same ((wordOf_any x1 x2 h1 h2 _).mono fun _ _ h => ⟨h.1, h.2.symm⟩)))
  go_wp2
  go_ret
  exact ⟨rfl, below_drewN ((Below.refl _ _).alloc (Nat.le_refl _) _) _⟩

set_option maxRecDepth 100000 in
theorem shown_rel (g o n c pc x1 : Nat) (nm : ByteArray) (m k : Int) (hm : (m == 12) = true) (hn : (1 : Int) < n) (h1 : x1 < 256) (hp : pc < 65536) (w : World) (hg : g < w.heap.size) (c1 : w.cell? ⟨g, o + 1, none⟩ = some (.int .u8 x1)) :
    Calls Try.prog 34 #[.slice (some ⟨g, o, none⟩) n c, .agg #[.string nm, .int .i64 m, .int .i64 2, .int .i64 k], .int .u16 pc] w fun e w' => e = .returned (.int .i64 ((relAt pc x1 : Nat) : Int)) ∧ Below w.heap.size w w' := by
  have i1 : (0 : Int) ≤ 1 ∧ (1 : Int) < n := by omega
  have d1 : (w.alloc (.cells #[.string nm, .int .i64 m, .int .i64 2, .int .i64 k] 49)).cell? ⟨g, o + 1, none⟩ = some (.int .u8 x1) := cellKept ((Below.refl _ _).alloc (Nat.le_refl _) _) c1 hg
  go_enter Try.func34, Try.ntmps34
  go_wp2_with fail
  go_quiet (fail)
  go_wp2
  go_ret
  exact ⟨congrArg (fun v => Ending.returned (Value.int .i64 v)) (rel_wrap h1 hp), below_drewN ((Below.refl _ _).alloc (Nat.le_refl _) _) _⟩

theorem bstep {w a b : World} (h : Below w.heap.size w a) (k : Below a.heap.size a b) : Below w.heap.size w b := h.trans (k.mono h.size)

theorem numCall {W : World} {B i q d : Nat} {T U H X : ByteArray} {n : Int} (h : MtC W B) (hi : i + 2 < 35) (hq : q = i + 1) (hd : d < 9) (hT : T.size ≤ 16) (hH : H.size ≤ 16) (hU : U.size ≤ 16) (e1 : mtCells.getD i undef = .string T) (e2 : mtCells.getD (i + 1) undef = .int .i64 d) (e3 : mtCells.getD (i + 2) undef = .string U)
    (HX : ∀ w, Calls Try.prog 66 #[.int .i64 n, .int .i64 d] w fun e w' => e = .returned (.string H) ∧ Below w.heap.size w w') (hX : T ++ H ++ U = X) :
    Calls Try.prog 85 #[.int .i64 n, .pointer (some ⟨B + q, 0, none⟩), .pointer (some ⟨B + q + 1, 0, none⟩), .pointer (some ⟨B + q + 2, 0, none⟩)] W fun e w' => e = .returned (.string X) ∧ Below W.heap.size W w' := by
  subst hX hq
  have c1 := h.2 i (by omega)
  have c2 := h.2 (i + 1) (by omega)
  have c3 := h.2 (i + 2) (by omega)
  have hs := h.1
  rw [e1, show B + 1 + i = B + (i + 1) by omega] at c1
  rw [e2, show B + 1 + (i + 1) = B + (i + 1) + 1 by omega] at c2
  rw [e3, show B + 1 + (i + 2) = B + (i + 1) + 2 by omega] at c3
  exact numTx_any T U H (B + (i + 1)) d n W hd hT hH hU HX (by omega) c1 c2 c3

theorem fixCall {W : World} {B i q : Nat} {T : ByteArray} {n : Int} (h : MtC W B) (hi : i < 35) (hq : q = i + 1) (e1 : mtCells.getD i undef = .string T) :
    Calls Try.prog 84 #[.int .i64 n, .pointer (some ⟨B + q, 0, none⟩)] W fun e w' => e = .returned (.string T) ∧ Below W.heap.size W w' := by
  subst hq
  have c1 := h.2 i hi
  rw [e1, show B + 1 + i = B + (i + 1) by omega] at c1
  exact (fixTx_any T (B + (i + 1)) n W c1).mono fun _ _ h => ⟨h.1, by rw [← h.2]; exact Below.refl _ _⟩

theorem four_keep {W w1 : World} {B : Nat} {a b c d : Value} (hb : Below W.heap.size W w1) (h : W.cell? ⟨B, 0, none⟩ = some a ∧ W.cell? ⟨B, 1, none⟩ = some b ∧ W.cell? ⟨B, 2, none⟩ = some c ∧ W.cell? ⟨B, 3, none⟩ = some d ∧ B < W.heap.size) :
    w1.cell? ⟨B, 0, none⟩ = some a ∧ w1.cell? ⟨B, 1, none⟩ = some b ∧ w1.cell? ⟨B, 2, none⟩ = some c ∧ w1.cell? ⟨B, 3, none⟩ = some d ∧ B < w1.heap.size :=
  ⟨(hb.cell (p := ⟨B, 0, none⟩) h.2.2.2.2).trans h.1, (hb.cell (p := ⟨B, 1, none⟩) h.2.2.2.2).trans h.2.1, (hb.cell (p := ⟨B, 2, none⟩) h.2.2.2.2).trans h.2.2.1, (hb.cell (p := ⟨B, 3, none⟩) h.2.2.2.2).trans h.2.2.2.1, Nat.lt_of_lt_of_le h.2.2.2.2 hb.size⟩

end Go.Proofs.Ytffhjoldiicgdaa
