/-
  What the program's player plays is what the model's operation does: plain numbers alone.
-/
import Derived.Test.YtblchdmemhhcbaaGreatQSPlayNum3

namespace Go.Proofs.YtblchdmemhhcbaaGreat
set_option linter.unusedVariables false
set_option linter.unusedSimpArgs false
open Go.RowKit

theorem rd_of (b : BusN) {a a' : Nat} (h : a % 65536 = a' % 65536) : b.rd a = b.rd a' := by unfold BusN.rd BusN.get BusN.spot; rw [h]
theorem get_of (b : BusN) {a a' : Nat} (h : a % 65536 = a' % 65536) : b.get a = b.get a' := by unfold BusN.get BusN.spot; rw [h]
theorem get_rd (b : BusN) (a x : Nat) : (b.rd a).get x = b.get x := rfl
theorem stk_of {s s' : Nat} (h : s % 256 = s' % 256) : stk s = stk s' := by unfold stk; rw [h]
theorem St.ext' {c c' : CpuN} {b b' : BusN} (h1 : c = c') (h2 : b = b') : (⟨c, b⟩ : St) = ⟨c', b'⟩ := by rw [h1, h2]

def CpuN.atPC (c : CpuN) (q : Nat) : CpuN := { c with PC := q }

theorem ite_PC {p : Prop} [Decidable p] {a b a' b' : CpuN} {q : Nat} (h1 : a = a'.atPC q) (h2 : b = b'.atPC q) : (if p then a else b) = (if p then a' else b').atPC q := by split <;> assumption

theorem useL_atPC (c : CpuN) (l : List UInt8) (m : Nat) (q : Nat) : useL { c with PC := q } l m = { useL c l m with PC := q } := by
  show _ = CpuN.atPC (useL c l m) q
  unfold useL
  repeat (first | (refine ite_PC rfl ?_) | rfl)

theorem regL_atPC (c : CpuN) (l : List UInt8) (q : Nat) : regL { c with PC := q } l = { regL c l with PC := q } := by
  show _ = CpuN.atPC (regL c l) q
  unfold regL
  repeat (first | (refine ite_PC rfl ?_) | rfl)

theorem flagL_atPC (c : CpuN) (l : List UInt8) (q : Nat) : flagL { c with PC := q } l = { flagL c l with PC := q } := by
  show _ = CpuN.atPC (flagL c l) q
  unfold flagL
  repeat (first | (refine ite_PC rfl ?_) | rfl)

theorem impLq (c : CpuN) (l : List UInt8) (m : Int) (q : Nat) : impL { c with PC := q } l m = { impL c l m with PC := q } := by
  show _ = CpuN.atPC (impL c l m) q
  unfold impL
  refine ite_PC rfl ?_
  rw [regL_atPC, flagL_atPC]
  rfl

theorem holdsL_PC (c : CpuN) (l : List UInt8) (q : Nat) : holdsL { c with PC := q } l = holdsL c l := by unfold holdsL; rfl

/-- Behind the first cycle: the model's operation. -/
def opB (b : BusN) (c : CpuN) (n : Nat) : CpuN × BusN :=
  let l := (opName n).toList
  if opKind n = 1 then ({ impL c l (opMode n) with PC := (c.PC + 1) % 65536 }, b.rd (c.PC + 1))
  else if opKind n = 5 then branchN b c l
  else if opKind n = 2 ∨ opKind n = 3 ∨ opKind n = 4 then dataN b c n
  else goN b c l (opMode n)

theorem opN_eq (b : BusN) (c : CpuN) : opN b c = opB (b.rd c.PC) c (b.get c.PC) := rfl

theorem inP_word {a : Nat} (ha : a < 65536) : inPage a ((a + 1) % 65536) = a / 256 * 256 + (a + 1) % 256 := by unfold inPage; omega

theorem inP_zero {z : Nat} (hz : z < 256) : inPage z ((z + 1) % 65536) = (z + 1) % 256 := by unfold inPage; omega

theorem place_eq_3 (c : CpuN) (b : BusN) (hb : ∀ a, b.get a < 256) (k : Int) : (⟨{ c with PC := (c.PC + 1) % 65536 }, b⟩ : St).place 3 k = ((placeN b c 3 k).1, ⟨{ c with PC := (c.PC + 2) % 65536 }, (placeN b c 3 k).2⟩) := by
  have rd1 : ∀ b : BusN, b.rd ((c.PC + 1) % 65536) = b.rd (c.PC + 1) := fun b => rd_of b (by omega)
  have get1 : ∀ b : BusN, b.get ((c.PC + 1) % 65536) = b.get (c.PC + 1) := fun b => get_of b (by omega)
  have rd2 : ∀ b : BusN, b.rd (((c.PC + 1) % 65536 + 1) % 65536) = b.rd (c.PC + 2) := fun b => rd_of b (by omega)
  have get2 : ∀ b : BusN, b.get (((c.PC + 1) % 65536 + 1) % 65536) = b.get (c.PC + 2) := fun b => get_of b (by omega)
  have rd3 : ∀ b : BusN, b.rd ((c.PC + 1) % 65536 + 1) = b.rd (c.PC + 2) := fun b => rd_of b (by omega)
  have get3 : ∀ b : BusN, b.get ((c.PC + 1) % 65536 + 1) = b.get (c.PC + 2) := fun b => get_of b (by omega)
  have rd4 : ∀ b : BusN, b.rd ((c.PC + 2) % 65536) = b.rd (c.PC + 2) := fun b => rd_of b (by omega)
  have get4 : ∀ b : BusN, b.get ((c.PC + 2) % 65536) = b.get (c.PC + 2) := fun b => get_of b (by omega)
  have e2 : ((c.PC + 1) % 65536 + 1) % 65536 = (c.PC + 2) % 65536 := by omega
  have e4 : (c.PC + 2 + 1) % 65536 = (c.PC + 3) % 65536 := by omega
  have e5 : ((c.PC + 2) % 65536 + 1) % 65536 = (c.PC + 3) % 65536 := by omega
  simp [St.place, placeN, St.fetch, rd1, get1, e2]

theorem place_eq_4 (c : CpuN) (b : BusN) (hb : ∀ a, b.get a < 256) (k : Int) : (⟨{ c with PC := (c.PC + 1) % 65536 }, b⟩ : St).place 4 k = ((placeN b c 4 k).1, ⟨{ c with PC := (c.PC + 2) % 65536 }, (placeN b c 4 k).2⟩) := by
  have rd1 : ∀ b : BusN, b.rd ((c.PC + 1) % 65536) = b.rd (c.PC + 1) := fun b => rd_of b (by omega)
  have get1 : ∀ b : BusN, b.get ((c.PC + 1) % 65536) = b.get (c.PC + 1) := fun b => get_of b (by omega)
  have rd2 : ∀ b : BusN, b.rd (((c.PC + 1) % 65536 + 1) % 65536) = b.rd (c.PC + 2) := fun b => rd_of b (by omega)
  have get2 : ∀ b : BusN, b.get (((c.PC + 1) % 65536 + 1) % 65536) = b.get (c.PC + 2) := fun b => get_of b (by omega)
  have rd3 : ∀ b : BusN, b.rd ((c.PC + 1) % 65536 + 1) = b.rd (c.PC + 2) := fun b => rd_of b (by omega)
  have get3 : ∀ b : BusN, b.get ((c.PC + 1) % 65536 + 1) = b.get (c.PC + 2) := fun b => get_of b (by omega)
  have rd4 : ∀ b : BusN, b.rd ((c.PC + 2) % 65536) = b.rd (c.PC + 2) := fun b => rd_of b (by omega)
  have get4 : ∀ b : BusN, b.get ((c.PC + 2) % 65536) = b.get (c.PC + 2) := fun b => get_of b (by omega)
  have e2 : ((c.PC + 1) % 65536 + 1) % 65536 = (c.PC + 2) % 65536 := by omega
  have e4 : (c.PC + 2 + 1) % 65536 = (c.PC + 3) % 65536 := by omega
  have e5 : ((c.PC + 2) % 65536 + 1) % 65536 = (c.PC + 3) % 65536 := by omega
  simp [St.place, placeN, St.zero, St.fetch, rd1, get1, e2, idxN, get_rd]

theorem place_eq_5 (c : CpuN) (b : BusN) (hb : ∀ a, b.get a < 256) (k : Int) : (⟨{ c with PC := (c.PC + 1) % 65536 }, b⟩ : St).place 5 k = ((placeN b c 5 k).1, ⟨{ c with PC := (c.PC + 2) % 65536 }, (placeN b c 5 k).2⟩) := by
  have rd1 : ∀ b : BusN, b.rd ((c.PC + 1) % 65536) = b.rd (c.PC + 1) := fun b => rd_of b (by omega)
  have get1 : ∀ b : BusN, b.get ((c.PC + 1) % 65536) = b.get (c.PC + 1) := fun b => get_of b (by omega)
  have rd2 : ∀ b : BusN, b.rd (((c.PC + 1) % 65536 + 1) % 65536) = b.rd (c.PC + 2) := fun b => rd_of b (by omega)
  have get2 : ∀ b : BusN, b.get (((c.PC + 1) % 65536 + 1) % 65536) = b.get (c.PC + 2) := fun b => get_of b (by omega)
  have rd3 : ∀ b : BusN, b.rd ((c.PC + 1) % 65536 + 1) = b.rd (c.PC + 2) := fun b => rd_of b (by omega)
  have get3 : ∀ b : BusN, b.get ((c.PC + 1) % 65536 + 1) = b.get (c.PC + 2) := fun b => get_of b (by omega)
  have rd4 : ∀ b : BusN, b.rd ((c.PC + 2) % 65536) = b.rd (c.PC + 2) := fun b => rd_of b (by omega)
  have get4 : ∀ b : BusN, b.get ((c.PC + 2) % 65536) = b.get (c.PC + 2) := fun b => get_of b (by omega)
  have e2 : ((c.PC + 1) % 65536 + 1) % 65536 = (c.PC + 2) % 65536 := by omega
  have e4 : (c.PC + 2 + 1) % 65536 = (c.PC + 3) % 65536 := by omega
  have e5 : ((c.PC + 2) % 65536 + 1) % 65536 = (c.PC + 3) % 65536 := by omega
  simp [St.place, placeN, St.zero, St.fetch, rd1, get1, e2, idxN, get_rd]

theorem place_eq_6 (c : CpuN) (b : BusN) (hb : ∀ a, b.get a < 256) (k : Int) : (⟨{ c with PC := (c.PC + 1) % 65536 }, b⟩ : St).place 6 k = ((placeN b c 6 k).1, ⟨{ c with PC := (c.PC + 3) % 65536 }, (placeN b c 6 k).2⟩) := by
  have rd1 : ∀ b : BusN, b.rd ((c.PC + 1) % 65536) = b.rd (c.PC + 1) := fun b => rd_of b (by omega)
  have get1 : ∀ b : BusN, b.get ((c.PC + 1) % 65536) = b.get (c.PC + 1) := fun b => get_of b (by omega)
  have rd2 : ∀ b : BusN, b.rd (((c.PC + 1) % 65536 + 1) % 65536) = b.rd (c.PC + 2) := fun b => rd_of b (by omega)
  have get2 : ∀ b : BusN, b.get (((c.PC + 1) % 65536 + 1) % 65536) = b.get (c.PC + 2) := fun b => get_of b (by omega)
  have rd3 : ∀ b : BusN, b.rd ((c.PC + 1) % 65536 + 1) = b.rd (c.PC + 2) := fun b => rd_of b (by omega)
  have get3 : ∀ b : BusN, b.get ((c.PC + 1) % 65536 + 1) = b.get (c.PC + 2) := fun b => get_of b (by omega)
  have rd4 : ∀ b : BusN, b.rd ((c.PC + 2) % 65536) = b.rd (c.PC + 2) := fun b => rd_of b (by omega)
  have get4 : ∀ b : BusN, b.get ((c.PC + 2) % 65536) = b.get (c.PC + 2) := fun b => get_of b (by omega)
  have e2 : ((c.PC + 1) % 65536 + 1) % 65536 = (c.PC + 2) % 65536 := by omega
  have e4 : (c.PC + 2 + 1) % 65536 = (c.PC + 3) % 65536 := by omega
  have e5 : ((c.PC + 2) % 65536 + 1) % 65536 = (c.PC + 3) % 65536 := by omega
  have hw : word (b.get (c.PC + 1)) (b.get (c.PC + 2)) < 65536 := by have := hb (c.PC + 1); have := hb (c.PC + 2); unfold word; omega
  simp [St.place, placeN, baseN, St.fetchW, St.fetch, rd1, get1, rd4, get4, e2, e4, e5, idxN, get_rd, Nat.mod_eq_of_lt hw]

theorem place_eq_7 (c : CpuN) (b : BusN) (hb : ∀ a, b.get a < 256) (k : Int) : (⟨{ c with PC := (c.PC + 1) % 65536 }, b⟩ : St).place 7 k = ((placeN b c 7 k).1, ⟨{ c with PC := (c.PC + 3) % 65536 }, (placeN b c 7 k).2⟩) := by
  have rd1 : ∀ b : BusN, b.rd ((c.PC + 1) % 65536) = b.rd (c.PC + 1) := fun b => rd_of b (by omega)
  have get1 : ∀ b : BusN, b.get ((c.PC + 1) % 65536) = b.get (c.PC + 1) := fun b => get_of b (by omega)
  have rd2 : ∀ b : BusN, b.rd (((c.PC + 1) % 65536 + 1) % 65536) = b.rd (c.PC + 2) := fun b => rd_of b (by omega)
  have get2 : ∀ b : BusN, b.get (((c.PC + 1) % 65536 + 1) % 65536) = b.get (c.PC + 2) := fun b => get_of b (by omega)
  have rd3 : ∀ b : BusN, b.rd ((c.PC + 1) % 65536 + 1) = b.rd (c.PC + 2) := fun b => rd_of b (by omega)
  have get3 : ∀ b : BusN, b.get ((c.PC + 1) % 65536 + 1) = b.get (c.PC + 2) := fun b => get_of b (by omega)
  have rd4 : ∀ b : BusN, b.rd ((c.PC + 2) % 65536) = b.rd (c.PC + 2) := fun b => rd_of b (by omega)
  have get4 : ∀ b : BusN, b.get ((c.PC + 2) % 65536) = b.get (c.PC + 2) := fun b => get_of b (by omega)
  have e2 : ((c.PC + 1) % 65536 + 1) % 65536 = (c.PC + 2) % 65536 := by omega
  have e4 : (c.PC + 2 + 1) % 65536 = (c.PC + 3) % 65536 := by omega
  have e5 : ((c.PC + 2) % 65536 + 1) % 65536 = (c.PC + 3) % 65536 := by omega
  simp [St.place, placeN, baseN, St.fetchW, St.fetch, St.indexed, inPage, rd1, get1, rd4, get4, e2, e4, e5, idxN, get_rd]
  generalize word (b.get (c.PC + 1)) (b.get (c.PC + 2)) = u
  by_cases hk : k = 2 <;> by_cases hw : u / 256 * 256 + (u + c.X) % 256 = (u + c.X) % 65536 <;> simp [hk, hw]

theorem place_eq_8 (c : CpuN) (b : BusN) (hb : ∀ a, b.get a < 256) (k : Int) : (⟨{ c with PC := (c.PC + 1) % 65536 }, b⟩ : St).place 8 k = ((placeN b c 8 k).1, ⟨{ c with PC := (c.PC + 3) % 65536 }, (placeN b c 8 k).2⟩) := by
  have rd1 : ∀ b : BusN, b.rd ((c.PC + 1) % 65536) = b.rd (c.PC + 1) := fun b => rd_of b (by omega)
  have get1 : ∀ b : BusN, b.get ((c.PC + 1) % 65536) = b.get (c.PC + 1) := fun b => get_of b (by omega)
  have rd2 : ∀ b : BusN, b.rd (((c.PC + 1) % 65536 + 1) % 65536) = b.rd (c.PC + 2) := fun b => rd_of b (by omega)
  have get2 : ∀ b : BusN, b.get (((c.PC + 1) % 65536 + 1) % 65536) = b.get (c.PC + 2) := fun b => get_of b (by omega)
  have rd3 : ∀ b : BusN, b.rd ((c.PC + 1) % 65536 + 1) = b.rd (c.PC + 2) := fun b => rd_of b (by omega)
  have get3 : ∀ b : BusN, b.get ((c.PC + 1) % 65536 + 1) = b.get (c.PC + 2) := fun b => get_of b (by omega)
  have rd4 : ∀ b : BusN, b.rd ((c.PC + 2) % 65536) = b.rd (c.PC + 2) := fun b => rd_of b (by omega)
  have get4 : ∀ b : BusN, b.get ((c.PC + 2) % 65536) = b.get (c.PC + 2) := fun b => get_of b (by omega)
  have e2 : ((c.PC + 1) % 65536 + 1) % 65536 = (c.PC + 2) % 65536 := by omega
  have e4 : (c.PC + 2 + 1) % 65536 = (c.PC + 3) % 65536 := by omega
  have e5 : ((c.PC + 2) % 65536 + 1) % 65536 = (c.PC + 3) % 65536 := by omega
  simp [St.place, placeN, baseN, St.fetchW, St.fetch, St.indexed, inPage, rd1, get1, rd4, get4, e2, e4, e5, idxN, get_rd]
  generalize word (b.get (c.PC + 1)) (b.get (c.PC + 2)) = u
  by_cases hk : k = 2 <;> by_cases hw : u / 256 * 256 + (u + c.Y) % 256 = (u + c.Y) % 65536 <;> simp [hk, hw]

theorem place_eq_10 (c : CpuN) (b : BusN) (hb : ∀ a, b.get a < 256) (k : Int) : (⟨{ c with PC := (c.PC + 1) % 65536 }, b⟩ : St).place 10 k = ((placeN b c 10 k).1, ⟨{ c with PC := (c.PC + 2) % 65536 }, (placeN b c 10 k).2⟩) := by
  have rd1 : ∀ b : BusN, b.rd ((c.PC + 1) % 65536) = b.rd (c.PC + 1) := fun b => rd_of b (by omega)
  have get1 : ∀ b : BusN, b.get ((c.PC + 1) % 65536) = b.get (c.PC + 1) := fun b => get_of b (by omega)
  have rd2 : ∀ b : BusN, b.rd (((c.PC + 1) % 65536 + 1) % 65536) = b.rd (c.PC + 2) := fun b => rd_of b (by omega)
  have get2 : ∀ b : BusN, b.get (((c.PC + 1) % 65536 + 1) % 65536) = b.get (c.PC + 2) := fun b => get_of b (by omega)
  have rd3 : ∀ b : BusN, b.rd ((c.PC + 1) % 65536 + 1) = b.rd (c.PC + 2) := fun b => rd_of b (by omega)
  have get3 : ∀ b : BusN, b.get ((c.PC + 1) % 65536 + 1) = b.get (c.PC + 2) := fun b => get_of b (by omega)
  have rd4 : ∀ b : BusN, b.rd ((c.PC + 2) % 65536) = b.rd (c.PC + 2) := fun b => rd_of b (by omega)
  have get4 : ∀ b : BusN, b.get ((c.PC + 2) % 65536) = b.get (c.PC + 2) := fun b => get_of b (by omega)
  have e2 : ((c.PC + 1) % 65536 + 1) % 65536 = (c.PC + 2) % 65536 := by omega
  have e4 : (c.PC + 2 + 1) % 65536 = (c.PC + 3) % 65536 := by omega
  have e5 : ((c.PC + 2) % 65536 + 1) % 65536 = (c.PC + 3) % 65536 := by omega
  have hz := hb (c.PC + 1)
  have e6 : inPage ((b.get (c.PC + 1) + c.X) % 256) (((b.get (c.PC + 1) + c.X) % 256 + 1) % 65536) = (b.get (c.PC + 1) + c.X + 1) % 256 := by unfold inPage; omega
  simp [St.place, placeN, St.zero, St.readW, St.fetch, rd1, get1, e2, idxN, get_rd, e6]

theorem place_eq_11 (c : CpuN) (b : BusN) (hb : ∀ a, b.get a < 256) (k : Int) : (⟨{ c with PC := (c.PC + 1) % 65536 }, b⟩ : St).place 11 k = ((placeN b c 11 k).1, ⟨{ c with PC := (c.PC + 2) % 65536 }, (placeN b c 11 k).2⟩) := by
  have rd1 : ∀ b : BusN, b.rd ((c.PC + 1) % 65536) = b.rd (c.PC + 1) := fun b => rd_of b (by omega)
  have get1 : ∀ b : BusN, b.get ((c.PC + 1) % 65536) = b.get (c.PC + 1) := fun b => get_of b (by omega)
  have rd2 : ∀ b : BusN, b.rd (((c.PC + 1) % 65536 + 1) % 65536) = b.rd (c.PC + 2) := fun b => rd_of b (by omega)
  have get2 : ∀ b : BusN, b.get (((c.PC + 1) % 65536 + 1) % 65536) = b.get (c.PC + 2) := fun b => get_of b (by omega)
  have rd3 : ∀ b : BusN, b.rd ((c.PC + 1) % 65536 + 1) = b.rd (c.PC + 2) := fun b => rd_of b (by omega)
  have get3 : ∀ b : BusN, b.get ((c.PC + 1) % 65536 + 1) = b.get (c.PC + 2) := fun b => get_of b (by omega)
  have rd4 : ∀ b : BusN, b.rd ((c.PC + 2) % 65536) = b.rd (c.PC + 2) := fun b => rd_of b (by omega)
  have get4 : ∀ b : BusN, b.get ((c.PC + 2) % 65536) = b.get (c.PC + 2) := fun b => get_of b (by omega)
  have e2 : ((c.PC + 1) % 65536 + 1) % 65536 = (c.PC + 2) % 65536 := by omega
  have e4 : (c.PC + 2 + 1) % 65536 = (c.PC + 3) % 65536 := by omega
  have e5 : ((c.PC + 2) % 65536 + 1) % 65536 = (c.PC + 3) % 65536 := by omega
  have hz := hb (c.PC + 1)
  have e6 := inP_zero hz
  simp [St.place, placeN, baseN, St.readW, St.fetch, St.indexed, rd1, get1, e2, idxN, get_rd, e6]
  unfold inPage
  generalize word (b.get (b.get (c.PC + 1))) (b.get ((b.get (c.PC + 1) + 1) % 256)) = u
  have e7 : (u + c.Y) % 65536 % 256 = (u + c.Y) % 256 := by omega
  rw [e7]
  by_cases hk : k = 2 <;> by_cases hw : u / 256 * 256 + (u + c.Y) % 256 = (u + c.Y) % 65536 <;> simp [hk, hw]

theorem place_eq (c : CpuN) (b : BusN) (hb : ∀ a, b.get a < 256) (m k : Int) (hm : m = 3 ∨ m = 4 ∨ m = 5 ∨ m = 6 ∨ m = 7 ∨ m = 8 ∨ m = 10 ∨ m = 11) : (⟨{ c with PC := (c.PC + 1) % 65536 }, b⟩ : St).place m k = ((placeN b c m k).1, ⟨{ c with PC := (c.PC + (sizeOfM m).toNat) % 65536 }, (placeN b c m k).2⟩) := by
  rcases hm with rfl | rfl | rfl | rfl | rfl | rfl | rfl | rfl
  · exact place_eq_3 c b hb k
  · exact place_eq_4 c b hb k
  · exact place_eq_5 c b hb k
  · exact place_eq_6 c b hb k
  · exact place_eq_7 c b hb k
  · exact place_eq_8 c b hb k
  · exact place_eq_10 c b hb k
  · exact place_eq_11 c b hb k

theorem eq_RTS (c : CpuN) (hc : c.ok) (b : BusN) (hb : ∀ a, b.get a < 256) (m : Int) : (⟨{ c with PC := (c.PC + 1) % 65536 }, b⟩ : St).backP = ⟨(goN b c [82, 84, 83] m).1, (goN b c [82, 84, 83] m).2⟩ := by
  obtain ⟨hA, hX, hY, hS, hP⟩ := hc
  have rd1 : ∀ b : BusN, b.rd ((c.PC + 1) % 65536) = b.rd (c.PC + 1) := fun b => rd_of b (by omega)
  have get1 : ∀ b : BusN, b.get ((c.PC + 1) % 65536) = b.get (c.PC + 1) := fun b => get_of b (by omega)
  have rd4 : ∀ b : BusN, b.rd ((c.PC + 2) % 65536) = b.rd (c.PC + 2) := fun b => rd_of b (by omega)
  have get4 : ∀ b : BusN, b.get ((c.PC + 2) % 65536) = b.get (c.PC + 2) := fun b => get_of b (by omega)
  have e2 : ((c.PC + 1) % 65536 + 1) % 65536 = (c.PC + 2) % 65536 := by omega
  have s1 : stk (c.S % 256) = stk c.S := stk_of (by omega)
  have s2 : stk ((c.S + 255) % 256) = stk (c.S + 255) := stk_of (by omega)
  have s3 : stk (((c.S + 255) % 256 + 255) % 256) = stk (c.S + 254) := stk_of (by omega)
  have s4 : stk ((c.S + 1) % 256 + 1) = stk (c.S + 2) := stk_of (by omega)
  have s5 : stk (((c.S + 1) % 256 + 1) % 256 + 1) = stk (c.S + 3) := stk_of (by omega)
  have t2 : ((c.S + 255) % 256 + 255) % 256 = (c.S + 254) % 256 := by omega
  have t3 : ((c.S + 254) % 256 + 255) % 256 = (c.S + 253) % 256 := by omega
  have t4 : ((c.S + 1) % 256 + 1) % 256 = (c.S + 2) % 256 := by omega
  have t5 : ((c.S + 2) % 256 + 1) % 256 = (c.S + 3) % 256 := by omega
  have s6 : stk ((c.S + 254) % 256) = stk (c.S + 254) := stk_of (by omega)
  have t6 : (c.PC + 2) % 65536 / 256 % 256 = (c.PC + 2) % 65536 / 256 := by omega
  have p6 : inPage 65534 65535 = 65535 := rfl
  have p7 : inPage 65530 65531 = 65531 := rfl
  have t7 : c.PC / 256 % 256 = c.PC / 256 := by omega
  have s7 : stk ((c.S + 2) % 256 + 1) = stk (c.S + 3) := stk_of (by omega)
  simp [goN, holdN, pushN, St.jumpP, St.subP, St.backP, St.rtiP, St.brkP, St.pushP, St.pullP, St.fetchW, St.readW, St.fetch, St.idle, St.idleStk, St.pushPC, St.push, St.pullPC, St.pull, St.inter, CpuN.unpack, CpuN.pk, CpuN.nz, rd1, get1, rd4, get4, e2, s1, s2, s3, s4, s5, s6, s7, t2, t3, t4, t5, t6, t7, p6, p7, get_rd]

theorem eq_RTI (c : CpuN) (hc : c.ok) (b : BusN) (hb : ∀ a, b.get a < 256) (m : Int) : (⟨{ c with PC := (c.PC + 1) % 65536 }, b⟩ : St).rtiP = ⟨(goN b c [82, 84, 73] m).1, (goN b c [82, 84, 73] m).2⟩ := by
  obtain ⟨hA, hX, hY, hS, hP⟩ := hc
  have rd1 : ∀ b : BusN, b.rd ((c.PC + 1) % 65536) = b.rd (c.PC + 1) := fun b => rd_of b (by omega)
  have get1 : ∀ b : BusN, b.get ((c.PC + 1) % 65536) = b.get (c.PC + 1) := fun b => get_of b (by omega)
  have rd4 : ∀ b : BusN, b.rd ((c.PC + 2) % 65536) = b.rd (c.PC + 2) := fun b => rd_of b (by omega)
  have get4 : ∀ b : BusN, b.get ((c.PC + 2) % 65536) = b.get (c.PC + 2) := fun b => get_of b (by omega)
  have e2 : ((c.PC + 1) % 65536 + 1) % 65536 = (c.PC + 2) % 65536 := by omega
  have s1 : stk (c.S % 256) = stk c.S := stk_of (by omega)
  have s2 : stk ((c.S + 255) % 256) = stk (c.S + 255) := stk_of (by omega)
  have s3 : stk (((c.S + 255) % 256 + 255) % 256) = stk (c.S + 254) := stk_of (by omega)
  have s4 : stk ((c.S + 1) % 256 + 1) = stk (c.S + 2) := stk_of (by omega)
  have s5 : stk (((c.S + 1) % 256 + 1) % 256 + 1) = stk (c.S + 3) := stk_of (by omega)
  have t2 : ((c.S + 255) % 256 + 255) % 256 = (c.S + 254) % 256 := by omega
  have t3 : ((c.S + 254) % 256 + 255) % 256 = (c.S + 253) % 256 := by omega
  have t4 : ((c.S + 1) % 256 + 1) % 256 = (c.S + 2) % 256 := by omega
  have t5 : ((c.S + 2) % 256 + 1) % 256 = (c.S + 3) % 256 := by omega
  have s6 : stk ((c.S + 254) % 256) = stk (c.S + 254) := stk_of (by omega)
  have t6 : (c.PC + 2) % 65536 / 256 % 256 = (c.PC + 2) % 65536 / 256 := by omega
  have p6 : inPage 65534 65535 = 65535 := rfl
  have p7 : inPage 65530 65531 = 65531 := rfl
  have t7 : c.PC / 256 % 256 = c.PC / 256 := by omega
  have s7 : stk ((c.S + 2) % 256 + 1) = stk (c.S + 3) := stk_of (by omega)
  simp [goN, holdN, pushN, St.jumpP, St.subP, St.backP, St.rtiP, St.brkP, St.pushP, St.pullP, St.fetchW, St.readW, St.fetch, St.idle, St.idleStk, St.pushPC, St.push, St.pullPC, St.pull, St.inter, CpuN.unpack, CpuN.pk, CpuN.nz, rd1, get1, rd4, get4, e2, s1, s2, s3, s4, s5, s6, s7, t2, t3, t4, t5, t6, t7, p6, p7, get_rd]

theorem eq_JSR (c : CpuN) (hc : c.ok) (b : BusN) (hb : ∀ a, b.get a < 256) (m : Int) : (⟨{ c with PC := (c.PC + 1) % 65536 }, b⟩ : St).subP = ⟨(goN b c [74, 83, 82] m).1, (goN b c [74, 83, 82] m).2⟩ := by
  obtain ⟨hA, hX, hY, hS, hP⟩ := hc
  have rd1 : ∀ b : BusN, b.rd ((c.PC + 1) % 65536) = b.rd (c.PC + 1) := fun b => rd_of b (by omega)
  have get1 : ∀ b : BusN, b.get ((c.PC + 1) % 65536) = b.get (c.PC + 1) := fun b => get_of b (by omega)
  have rd4 : ∀ b : BusN, b.rd ((c.PC + 2) % 65536) = b.rd (c.PC + 2) := fun b => rd_of b (by omega)
  have get4 : ∀ b : BusN, b.get ((c.PC + 2) % 65536) = b.get (c.PC + 2) := fun b => get_of b (by omega)
  have e2 : ((c.PC + 1) % 65536 + 1) % 65536 = (c.PC + 2) % 65536 := by omega
  have s1 : stk (c.S % 256) = stk c.S := stk_of (by omega)
  have s2 : stk ((c.S + 255) % 256) = stk (c.S + 255) := stk_of (by omega)
  have s3 : stk (((c.S + 255) % 256 + 255) % 256) = stk (c.S + 254) := stk_of (by omega)
  have s4 : stk ((c.S + 1) % 256 + 1) = stk (c.S + 2) := stk_of (by omega)
  have s5 : stk (((c.S + 1) % 256 + 1) % 256 + 1) = stk (c.S + 3) := stk_of (by omega)
  have t2 : ((c.S + 255) % 256 + 255) % 256 = (c.S + 254) % 256 := by omega
  have t3 : ((c.S + 254) % 256 + 255) % 256 = (c.S + 253) % 256 := by omega
  have t4 : ((c.S + 1) % 256 + 1) % 256 = (c.S + 2) % 256 := by omega
  have t5 : ((c.S + 2) % 256 + 1) % 256 = (c.S + 3) % 256 := by omega
  have s6 : stk ((c.S + 254) % 256) = stk (c.S + 254) := stk_of (by omega)
  have t6 : (c.PC + 2) % 65536 / 256 % 256 = (c.PC + 2) % 65536 / 256 := by omega
  have p6 : inPage 65534 65535 = 65535 := rfl
  have p7 : inPage 65530 65531 = 65531 := rfl
  have t7 : c.PC / 256 % 256 = c.PC / 256 := by omega
  have s7 : stk ((c.S + 2) % 256 + 1) = stk (c.S + 3) := stk_of (by omega)
  simp [goN, holdN, pushN, St.jumpP, St.subP, St.backP, St.rtiP, St.brkP, St.pushP, St.pullP, St.fetchW, St.readW, St.fetch, St.idle, St.idleStk, St.pushPC, St.push, St.pullPC, St.pull, St.inter, CpuN.unpack, CpuN.pk, CpuN.nz, rd1, get1, rd4, get4, e2, s1, s2, s3, s4, s5, s6, s7, t2, t3, t4, t5, t6, t7, p6, p7, get_rd]

theorem eq_BRK (c : CpuN) (hc : c.ok) (b : BusN) (hb : ∀ a, b.get a < 256) (m : Int) : (⟨{ c with PC := (c.PC + 1) % 65536 }, b⟩ : St).brkP = ⟨(goN b c [66, 82, 75] m).1, (goN b c [66, 82, 75] m).2⟩ := by
  obtain ⟨hA, hX, hY, hS, hP⟩ := hc
  have rd1 : ∀ b : BusN, b.rd ((c.PC + 1) % 65536) = b.rd (c.PC + 1) := fun b => rd_of b (by omega)
  have get1 : ∀ b : BusN, b.get ((c.PC + 1) % 65536) = b.get (c.PC + 1) := fun b => get_of b (by omega)
  have rd4 : ∀ b : BusN, b.rd ((c.PC + 2) % 65536) = b.rd (c.PC + 2) := fun b => rd_of b (by omega)
  have get4 : ∀ b : BusN, b.get ((c.PC + 2) % 65536) = b.get (c.PC + 2) := fun b => get_of b (by omega)
  have e2 : ((c.PC + 1) % 65536 + 1) % 65536 = (c.PC + 2) % 65536 := by omega
  have s1 : stk (c.S % 256) = stk c.S := stk_of (by omega)
  have s2 : stk ((c.S + 255) % 256) = stk (c.S + 255) := stk_of (by omega)
  have s3 : stk (((c.S + 255) % 256 + 255) % 256) = stk (c.S + 254) := stk_of (by omega)
  have s4 : stk ((c.S + 1) % 256 + 1) = stk (c.S + 2) := stk_of (by omega)
  have s5 : stk (((c.S + 1) % 256 + 1) % 256 + 1) = stk (c.S + 3) := stk_of (by omega)
  have t2 : ((c.S + 255) % 256 + 255) % 256 = (c.S + 254) % 256 := by omega
  have t3 : ((c.S + 254) % 256 + 255) % 256 = (c.S + 253) % 256 := by omega
  have t4 : ((c.S + 1) % 256 + 1) % 256 = (c.S + 2) % 256 := by omega
  have t5 : ((c.S + 2) % 256 + 1) % 256 = (c.S + 3) % 256 := by omega
  have s6 : stk ((c.S + 254) % 256) = stk (c.S + 254) := stk_of (by omega)
  have t6 : (c.PC + 2) % 65536 / 256 % 256 = (c.PC + 2) % 65536 / 256 := by omega
  have p6 : inPage 65534 65535 = 65535 := rfl
  have p7 : inPage 65530 65531 = 65531 := rfl
  have t7 : c.PC / 256 % 256 = c.PC / 256 := by omega
  have s7 : stk ((c.S + 2) % 256 + 1) = stk (c.S + 3) := stk_of (by omega)
  simp [goN, holdN, pushN, St.jumpP, St.subP, St.backP, St.rtiP, St.brkP, St.pushP, St.pullP, St.fetchW, St.readW, St.fetch, St.idle, St.idleStk, St.pushPC, St.push, St.pullPC, St.pull, St.inter, CpuN.unpack, CpuN.pk, CpuN.nz, rd1, get1, rd4, get4, e2, s1, s2, s3, s4, s5, s6, s7, t2, t3, t4, t5, t6, t7, p6, p7, get_rd]

theorem eq_JMPa (c : CpuN) (hc : c.ok) (b : BusN) (hb : ∀ a, b.get a < 256) : (⟨{ c with PC := (c.PC + 1) % 65536 }, b⟩ : St).jumpP 6 = ⟨(goN b c [74, 77, 80] 6).1, (goN b c [74, 77, 80] 6).2⟩ := by
  obtain ⟨hA, hX, hY, hS, hP⟩ := hc
  have rd1 : ∀ b : BusN, b.rd ((c.PC + 1) % 65536) = b.rd (c.PC + 1) := fun b => rd_of b (by omega)
  have get1 : ∀ b : BusN, b.get ((c.PC + 1) % 65536) = b.get (c.PC + 1) := fun b => get_of b (by omega)
  have rd4 : ∀ b : BusN, b.rd ((c.PC + 2) % 65536) = b.rd (c.PC + 2) := fun b => rd_of b (by omega)
  have get4 : ∀ b : BusN, b.get ((c.PC + 2) % 65536) = b.get (c.PC + 2) := fun b => get_of b (by omega)
  have e2 : ((c.PC + 1) % 65536 + 1) % 65536 = (c.PC + 2) % 65536 := by omega
  have s1 : stk (c.S % 256) = stk c.S := stk_of (by omega)
  have s2 : stk ((c.S + 255) % 256) = stk (c.S + 255) := stk_of (by omega)
  have s3 : stk (((c.S + 255) % 256 + 255) % 256) = stk (c.S + 254) := stk_of (by omega)
  have s4 : stk ((c.S + 1) % 256 + 1) = stk (c.S + 2) := stk_of (by omega)
  have s5 : stk (((c.S + 1) % 256 + 1) % 256 + 1) = stk (c.S + 3) := stk_of (by omega)
  have t2 : ((c.S + 255) % 256 + 255) % 256 = (c.S + 254) % 256 := by omega
  have t3 : ((c.S + 254) % 256 + 255) % 256 = (c.S + 253) % 256 := by omega
  have t4 : ((c.S + 1) % 256 + 1) % 256 = (c.S + 2) % 256 := by omega
  have t5 : ((c.S + 2) % 256 + 1) % 256 = (c.S + 3) % 256 := by omega
  have s6 : stk ((c.S + 254) % 256) = stk (c.S + 254) := stk_of (by omega)
  have t6 : (c.PC + 2) % 65536 / 256 % 256 = (c.PC + 2) % 65536 / 256 := by omega
  have p6 : inPage 65534 65535 = 65535 := rfl
  have p7 : inPage 65530 65531 = 65531 := rfl
  have t7 : c.PC / 256 % 256 = c.PC / 256 := by omega
  have s7 : stk ((c.S + 2) % 256 + 1) = stk (c.S + 3) := stk_of (by omega)
  simp [goN, holdN, pushN, St.jumpP, St.subP, St.backP, St.rtiP, St.brkP, St.pushP, St.pullP, St.fetchW, St.readW, St.fetch, St.idle, St.idleStk, St.pushPC, St.push, St.pullPC, St.pull, St.inter, CpuN.unpack, CpuN.pk, CpuN.nz, rd1, get1, rd4, get4, e2, s1, s2, s3, s4, s5, s6, s7, t2, t3, t4, t5, t6, t7, p6, p7, get_rd]

theorem eq_JMPi (c : CpuN) (hc : c.ok) (b : BusN) (hb : ∀ a, b.get a < 256) : (⟨{ c with PC := (c.PC + 1) % 65536 }, b⟩ : St).jumpP 9 = ⟨(goN b c [74, 77, 80] 9).1, (goN b c [74, 77, 80] 9).2⟩ := by
  obtain ⟨hA, hX, hY, hS, hP⟩ := hc
  have rd1 : ∀ b : BusN, b.rd ((c.PC + 1) % 65536) = b.rd (c.PC + 1) := fun b => rd_of b (by omega)
  have get1 : ∀ b : BusN, b.get ((c.PC + 1) % 65536) = b.get (c.PC + 1) := fun b => get_of b (by omega)
  have rd4 : ∀ b : BusN, b.rd ((c.PC + 2) % 65536) = b.rd (c.PC + 2) := fun b => rd_of b (by omega)
  have get4 : ∀ b : BusN, b.get ((c.PC + 2) % 65536) = b.get (c.PC + 2) := fun b => get_of b (by omega)
  have e2 : ((c.PC + 1) % 65536 + 1) % 65536 = (c.PC + 2) % 65536 := by omega
  have s1 : stk (c.S % 256) = stk c.S := stk_of (by omega)
  have s2 : stk ((c.S + 255) % 256) = stk (c.S + 255) := stk_of (by omega)
  have s3 : stk (((c.S + 255) % 256 + 255) % 256) = stk (c.S + 254) := stk_of (by omega)
  have s4 : stk ((c.S + 1) % 256 + 1) = stk (c.S + 2) := stk_of (by omega)
  have s5 : stk (((c.S + 1) % 256 + 1) % 256 + 1) = stk (c.S + 3) := stk_of (by omega)
  have t2 : ((c.S + 255) % 256 + 255) % 256 = (c.S + 254) % 256 := by omega
  have t3 : ((c.S + 254) % 256 + 255) % 256 = (c.S + 253) % 256 := by omega
  have t4 : ((c.S + 1) % 256 + 1) % 256 = (c.S + 2) % 256 := by omega
  have t5 : ((c.S + 2) % 256 + 1) % 256 = (c.S + 3) % 256 := by omega
  have s6 : stk ((c.S + 254) % 256) = stk (c.S + 254) := stk_of (by omega)
  have t6 : (c.PC + 2) % 65536 / 256 % 256 = (c.PC + 2) % 65536 / 256 := by omega
  have p6 : inPage 65534 65535 = 65535 := rfl
  have p7 : inPage 65530 65531 = 65531 := rfl
  have t7 : c.PC / 256 % 256 = c.PC / 256 := by omega
  have s7 : stk ((c.S + 2) % 256 + 1) = stk (c.S + 3) := stk_of (by omega)
  have hw : word (b.get (c.PC + 1)) (b.get (c.PC + 2)) < 65536 := by have := hb (c.PC + 1); have := hb (c.PC + 2); unfold word; omega
  have e6 := inP_word hw
  simp [goN, holdN, pushN, St.jumpP, St.subP, St.backP, St.rtiP, St.brkP, St.pushP, St.pullP, St.fetchW, St.readW, St.fetch, St.idle, St.idleStk, St.pushPC, St.push, St.pullPC, St.pull, St.inter, CpuN.unpack, CpuN.pk, CpuN.nz, rd1, get1, rd4, get4, e2, s1, s2, s3, s4, s5, s6, s7, t2, t3, t4, t5, t6, t7, p6, p7, get_rd, e6]

theorem eq_PHA (c : CpuN) (hc : c.ok) (b : BusN) (hb : ∀ a, b.get a < 256) (m : Int) : (⟨{ c with PC := (c.PC + 1) % 65536 }, b⟩ : St).pushP [80, 72, 65] = ⟨(goN b c [80, 72, 65] m).1, (goN b c [80, 72, 65] m).2⟩ := by
  obtain ⟨hA, hX, hY, hS, hP⟩ := hc
  have rd1 : ∀ b : BusN, b.rd ((c.PC + 1) % 65536) = b.rd (c.PC + 1) := fun b => rd_of b (by omega)
  have get1 : ∀ b : BusN, b.get ((c.PC + 1) % 65536) = b.get (c.PC + 1) := fun b => get_of b (by omega)
  have rd4 : ∀ b : BusN, b.rd ((c.PC + 2) % 65536) = b.rd (c.PC + 2) := fun b => rd_of b (by omega)
  have get4 : ∀ b : BusN, b.get ((c.PC + 2) % 65536) = b.get (c.PC + 2) := fun b => get_of b (by omega)
  have e2 : ((c.PC + 1) % 65536 + 1) % 65536 = (c.PC + 2) % 65536 := by omega
  have s1 : stk (c.S % 256) = stk c.S := stk_of (by omega)
  have s2 : stk ((c.S + 255) % 256) = stk (c.S + 255) := stk_of (by omega)
  have s3 : stk (((c.S + 255) % 256 + 255) % 256) = stk (c.S + 254) := stk_of (by omega)
  have s4 : stk ((c.S + 1) % 256 + 1) = stk (c.S + 2) := stk_of (by omega)
  have s5 : stk (((c.S + 1) % 256 + 1) % 256 + 1) = stk (c.S + 3) := stk_of (by omega)
  have t2 : ((c.S + 255) % 256 + 255) % 256 = (c.S + 254) % 256 := by omega
  have t3 : ((c.S + 254) % 256 + 255) % 256 = (c.S + 253) % 256 := by omega
  have t4 : ((c.S + 1) % 256 + 1) % 256 = (c.S + 2) % 256 := by omega
  have t5 : ((c.S + 2) % 256 + 1) % 256 = (c.S + 3) % 256 := by omega
  have s6 : stk ((c.S + 254) % 256) = stk (c.S + 254) := stk_of (by omega)
  have t6 : (c.PC + 2) % 65536 / 256 % 256 = (c.PC + 2) % 65536 / 256 := by omega
  have p6 : inPage 65534 65535 = 65535 := rfl
  have p7 : inPage 65530 65531 = 65531 := rfl
  have t7 : c.PC / 256 % 256 = c.PC / 256 := by omega
  have s7 : stk ((c.S + 2) % 256 + 1) = stk (c.S + 3) := stk_of (by omega)
  simp [goN, holdN, pushN, St.jumpP, St.subP, St.backP, St.rtiP, St.brkP, St.pushP, St.pullP, St.fetchW, St.readW, St.fetch, St.idle, St.idleStk, St.pushPC, St.push, St.pullPC, St.pull, St.inter, CpuN.unpack, CpuN.pk, CpuN.nz, rd1, get1, rd4, get4, e2, s1, s2, s3, s4, s5, s6, s7, t2, t3, t4, t5, t6, t7, p6, p7, get_rd]

theorem eq_PHP (c : CpuN) (hc : c.ok) (b : BusN) (hb : ∀ a, b.get a < 256) (m : Int) : (⟨{ c with PC := (c.PC + 1) % 65536 }, b⟩ : St).pushP [80, 72, 80] = ⟨(goN b c [80, 72, 80] m).1, (goN b c [80, 72, 80] m).2⟩ := by
  obtain ⟨hA, hX, hY, hS, hP⟩ := hc
  have rd1 : ∀ b : BusN, b.rd ((c.PC + 1) % 65536) = b.rd (c.PC + 1) := fun b => rd_of b (by omega)
  have get1 : ∀ b : BusN, b.get ((c.PC + 1) % 65536) = b.get (c.PC + 1) := fun b => get_of b (by omega)
  have rd4 : ∀ b : BusN, b.rd ((c.PC + 2) % 65536) = b.rd (c.PC + 2) := fun b => rd_of b (by omega)
  have get4 : ∀ b : BusN, b.get ((c.PC + 2) % 65536) = b.get (c.PC + 2) := fun b => get_of b (by omega)
  have e2 : ((c.PC + 1) % 65536 + 1) % 65536 = (c.PC + 2) % 65536 := by omega
  have s1 : stk (c.S % 256) = stk c.S := stk_of (by omega)
  have s2 : stk ((c.S + 255) % 256) = stk (c.S + 255) := stk_of (by omega)
  have s3 : stk (((c.S + 255) % 256 + 255) % 256) = stk (c.S + 254) := stk_of (by omega)
  have s4 : stk ((c.S + 1) % 256 + 1) = stk (c.S + 2) := stk_of (by omega)
  have s5 : stk (((c.S + 1) % 256 + 1) % 256 + 1) = stk (c.S + 3) := stk_of (by omega)
  have t2 : ((c.S + 255) % 256 + 255) % 256 = (c.S + 254) % 256 := by omega
  have t3 : ((c.S + 254) % 256 + 255) % 256 = (c.S + 253) % 256 := by omega
  have t4 : ((c.S + 1) % 256 + 1) % 256 = (c.S + 2) % 256 := by omega
  have t5 : ((c.S + 2) % 256 + 1) % 256 = (c.S + 3) % 256 := by omega
  have s6 : stk ((c.S + 254) % 256) = stk (c.S + 254) := stk_of (by omega)
  have t6 : (c.PC + 2) % 65536 / 256 % 256 = (c.PC + 2) % 65536 / 256 := by omega
  have p6 : inPage 65534 65535 = 65535 := rfl
  have p7 : inPage 65530 65531 = 65531 := rfl
  have t7 : c.PC / 256 % 256 = c.PC / 256 := by omega
  have s7 : stk ((c.S + 2) % 256 + 1) = stk (c.S + 3) := stk_of (by omega)
  simp [goN, holdN, pushN, St.jumpP, St.subP, St.backP, St.rtiP, St.brkP, St.pushP, St.pullP, St.fetchW, St.readW, St.fetch, St.idle, St.idleStk, St.pushPC, St.push, St.pullPC, St.pull, St.inter, CpuN.unpack, CpuN.pk, CpuN.nz, rd1, get1, rd4, get4, e2, s1, s2, s3, s4, s5, s6, s7, t2, t3, t4, t5, t6, t7, p6, p7, get_rd]

theorem eq_PLA (c : CpuN) (hc : c.ok) (b : BusN) (hb : ∀ a, b.get a < 256) (m : Int) : (⟨{ c with PC := (c.PC + 1) % 65536 }, b⟩ : St).pullP [80, 76, 65] = ⟨(goN b c [80, 76, 65] m).1, (goN b c [80, 76, 65] m).2⟩ := by
  obtain ⟨hA, hX, hY, hS, hP⟩ := hc
  have rd1 : ∀ b : BusN, b.rd ((c.PC + 1) % 65536) = b.rd (c.PC + 1) := fun b => rd_of b (by omega)
  have get1 : ∀ b : BusN, b.get ((c.PC + 1) % 65536) = b.get (c.PC + 1) := fun b => get_of b (by omega)
  have rd4 : ∀ b : BusN, b.rd ((c.PC + 2) % 65536) = b.rd (c.PC + 2) := fun b => rd_of b (by omega)
  have get4 : ∀ b : BusN, b.get ((c.PC + 2) % 65536) = b.get (c.PC + 2) := fun b => get_of b (by omega)
  have e2 : ((c.PC + 1) % 65536 + 1) % 65536 = (c.PC + 2) % 65536 := by omega
  have s1 : stk (c.S % 256) = stk c.S := stk_of (by omega)
  have s2 : stk ((c.S + 255) % 256) = stk (c.S + 255) := stk_of (by omega)
  have s3 : stk (((c.S + 255) % 256 + 255) % 256) = stk (c.S + 254) := stk_of (by omega)
  have s4 : stk ((c.S + 1) % 256 + 1) = stk (c.S + 2) := stk_of (by omega)
  have s5 : stk (((c.S + 1) % 256 + 1) % 256 + 1) = stk (c.S + 3) := stk_of (by omega)
  have t2 : ((c.S + 255) % 256 + 255) % 256 = (c.S + 254) % 256 := by omega
  have t3 : ((c.S + 254) % 256 + 255) % 256 = (c.S + 253) % 256 := by omega
  have t4 : ((c.S + 1) % 256 + 1) % 256 = (c.S + 2) % 256 := by omega
  have t5 : ((c.S + 2) % 256 + 1) % 256 = (c.S + 3) % 256 := by omega
  have s6 : stk ((c.S + 254) % 256) = stk (c.S + 254) := stk_of (by omega)
  have t6 : (c.PC + 2) % 65536 / 256 % 256 = (c.PC + 2) % 65536 / 256 := by omega
  have p6 : inPage 65534 65535 = 65535 := rfl
  have p7 : inPage 65530 65531 = 65531 := rfl
  have t7 : c.PC / 256 % 256 = c.PC / 256 := by omega
  have s7 : stk ((c.S + 2) % 256 + 1) = stk (c.S + 3) := stk_of (by omega)
  simp [goN, holdN, pushN, St.jumpP, St.subP, St.backP, St.rtiP, St.brkP, St.pushP, St.pullP, St.fetchW, St.readW, St.fetch, St.idle, St.idleStk, St.pushPC, St.push, St.pullPC, St.pull, St.inter, CpuN.unpack, CpuN.pk, CpuN.nz, rd1, get1, rd4, get4, e2, s1, s2, s3, s4, s5, s6, s7, t2, t3, t4, t5, t6, t7, p6, p7, get_rd]

theorem eq_PLP (c : CpuN) (hc : c.ok) (b : BusN) (hb : ∀ a, b.get a < 256) (m : Int) : (⟨{ c with PC := (c.PC + 1) % 65536 }, b⟩ : St).pullP [80, 76, 80] = ⟨(goN b c [80, 76, 80] m).1, (goN b c [80, 76, 80] m).2⟩ := by
  obtain ⟨hA, hX, hY, hS, hP⟩ := hc
  have rd1 : ∀ b : BusN, b.rd ((c.PC + 1) % 65536) = b.rd (c.PC + 1) := fun b => rd_of b (by omega)
  have get1 : ∀ b : BusN, b.get ((c.PC + 1) % 65536) = b.get (c.PC + 1) := fun b => get_of b (by omega)
  have rd4 : ∀ b : BusN, b.rd ((c.PC + 2) % 65536) = b.rd (c.PC + 2) := fun b => rd_of b (by omega)
  have get4 : ∀ b : BusN, b.get ((c.PC + 2) % 65536) = b.get (c.PC + 2) := fun b => get_of b (by omega)
  have e2 : ((c.PC + 1) % 65536 + 1) % 65536 = (c.PC + 2) % 65536 := by omega
  have s1 : stk (c.S % 256) = stk c.S := stk_of (by omega)
  have s2 : stk ((c.S + 255) % 256) = stk (c.S + 255) := stk_of (by omega)
  have s3 : stk (((c.S + 255) % 256 + 255) % 256) = stk (c.S + 254) := stk_of (by omega)
  have s4 : stk ((c.S + 1) % 256 + 1) = stk (c.S + 2) := stk_of (by omega)
  have s5 : stk (((c.S + 1) % 256 + 1) % 256 + 1) = stk (c.S + 3) := stk_of (by omega)
  have t2 : ((c.S + 255) % 256 + 255) % 256 = (c.S + 254) % 256 := by omega
  have t3 : ((c.S + 254) % 256 + 255) % 256 = (c.S + 253) % 256 := by omega
  have t4 : ((c.S + 1) % 256 + 1) % 256 = (c.S + 2) % 256 := by omega
  have t5 : ((c.S + 2) % 256 + 1) % 256 = (c.S + 3) % 256 := by omega
  have s6 : stk ((c.S + 254) % 256) = stk (c.S + 254) := stk_of (by omega)
  have t6 : (c.PC + 2) % 65536 / 256 % 256 = (c.PC + 2) % 65536 / 256 := by omega
  have p6 : inPage 65534 65535 = 65535 := rfl
  have p7 : inPage 65530 65531 = 65531 := rfl
  have t7 : c.PC / 256 % 256 = c.PC / 256 := by omega
  have s7 : stk ((c.S + 2) % 256 + 1) = stk (c.S + 3) := stk_of (by omega)
  simp [goN, holdN, pushN, St.jumpP, St.subP, St.backP, St.rtiP, St.brkP, St.pushP, St.pullP, St.fetchW, St.readW, St.fetch, St.idle, St.idleStk, St.pushPC, St.push, St.pullPC, St.pull, St.inter, CpuN.unpack, CpuN.pk, CpuN.nz, rd1, get1, rd4, get4, e2, s1, s2, s3, s4, s5, s6, s7, t2, t3, t4, t5, t6, t7, p6, p7, get_rd]

theorem serve_eq (c : CpuN) (hc : c.ok) (b : BusN) (nmi : Bool) : (⟨c, b⟩ : St).idle.idle.inter (if nmi then 65530 else 65534) false = ⟨(serveN b c nmi).1, (serveN b c nmi).2⟩ := by
  obtain ⟨hA, hX, hY, hS, hP⟩ := hc
  have rd1 : ∀ b : BusN, b.rd ((c.PC + 1) % 65536) = b.rd (c.PC + 1) := fun b => rd_of b (by omega)
  have get1 : ∀ b : BusN, b.get ((c.PC + 1) % 65536) = b.get (c.PC + 1) := fun b => get_of b (by omega)
  have rd4 : ∀ b : BusN, b.rd ((c.PC + 2) % 65536) = b.rd (c.PC + 2) := fun b => rd_of b (by omega)
  have get4 : ∀ b : BusN, b.get ((c.PC + 2) % 65536) = b.get (c.PC + 2) := fun b => get_of b (by omega)
  have e2 : ((c.PC + 1) % 65536 + 1) % 65536 = (c.PC + 2) % 65536 := by omega
  have s1 : stk (c.S % 256) = stk c.S := stk_of (by omega)
  have s2 : stk ((c.S + 255) % 256) = stk (c.S + 255) := stk_of (by omega)
  have s3 : stk (((c.S + 255) % 256 + 255) % 256) = stk (c.S + 254) := stk_of (by omega)
  have s4 : stk ((c.S + 1) % 256 + 1) = stk (c.S + 2) := stk_of (by omega)
  have s5 : stk (((c.S + 1) % 256 + 1) % 256 + 1) = stk (c.S + 3) := stk_of (by omega)
  have t2 : ((c.S + 255) % 256 + 255) % 256 = (c.S + 254) % 256 := by omega
  have t3 : ((c.S + 254) % 256 + 255) % 256 = (c.S + 253) % 256 := by omega
  have t4 : ((c.S + 1) % 256 + 1) % 256 = (c.S + 2) % 256 := by omega
  have t5 : ((c.S + 2) % 256 + 1) % 256 = (c.S + 3) % 256 := by omega
  have s6 : stk ((c.S + 254) % 256) = stk (c.S + 254) := stk_of (by omega)
  have t6 : (c.PC + 2) % 65536 / 256 % 256 = (c.PC + 2) % 65536 / 256 := by omega
  have p6 : inPage 65534 65535 = 65535 := rfl
  have p7 : inPage 65530 65531 = 65531 := rfl
  have t7 : c.PC / 256 % 256 = c.PC / 256 := by omega
  have s7 : stk ((c.S + 2) % 256 + 1) = stk (c.S + 3) := stk_of (by omega)
  cases nmi <;> simp [serveN, pushN, St.idle, St.pushPC, St.push, St.inter, St.readW, CpuN.pk, rd1, get1, rd4, get4, e2, s1, s2, s3, s4, s5, s6, s7, t2, t3, t4, t5, t6, t7, p6, p7, get_rd]

theorem branch_eq (c : CpuN) (hc : c.ok) (b : BusN) (l : List UInt8) : (⟨{ c with PC := (c.PC + 1) % 65536 }, b⟩ : St).branchP l = ⟨(branchN b c l).1, (branchN b c l).2⟩ := by
  obtain ⟨hA, hX, hY, hS, hP⟩ := hc
  have rd1 : ∀ b : BusN, b.rd ((c.PC + 1) % 65536) = b.rd (c.PC + 1) := fun b => rd_of b (by omega)
  have get1 : ∀ b : BusN, b.get ((c.PC + 1) % 65536) = b.get (c.PC + 1) := fun b => get_of b (by omega)
  have rd4 : ∀ b : BusN, b.rd ((c.PC + 2) % 65536) = b.rd (c.PC + 2) := fun b => rd_of b (by omega)
  have get4 : ∀ b : BusN, b.get ((c.PC + 2) % 65536) = b.get (c.PC + 2) := fun b => get_of b (by omega)
  have e2 : ((c.PC + 1) % 65536 + 1) % 65536 = (c.PC + 2) % 65536 := by omega
  have hh : ∀ q, holdsL { c with PC := q } l = holdsL c l := fun q => holdsL_PC c l q
  unfold St.branchP branchN
  simp only [St.fetch, St.idle, e2, hh, rd1, get1, rd4]
  cases holdsL c l with
  | false => rfl
  | true =>
    simp only [if_true]
    unfold inPage
    split <;> rfl

theorem data_eq (c : CpuN) (b : BusN) (hb : ∀ a, b.get a < 256) (n : Nat) (hm : opMode n = 2 ∨ opMode n = 3 ∨ opMode n = 4 ∨ opMode n = 5 ∨ opMode n = 6 ∨ opMode n = 7 ∨ opMode n = 8 ∨ opMode n = 10 ∨ opMode n = 11) (hz : opSize n = sizeOfM (opMode n))
    (hk : opKind n = 2 ∨ (opKind n = 3 ∧ opMode n ≠ 2) ∨ (opKind n = 4 ∧ opMode n ≠ 2)) : (⟨{ c with PC := (c.PC + 1) % 65536 }, b⟩ : St).kindP n = ⟨(dataN b c n).1, (dataN b c n).2⟩ := by
  have rd1 : ∀ b : BusN, b.rd ((c.PC + 1) % 65536) = b.rd (c.PC + 1) := fun b => rd_of b (by omega)
  have get1 : ∀ b : BusN, b.get ((c.PC + 1) % 65536) = b.get (c.PC + 1) := fun b => get_of b (by omega)
  have rd4 : ∀ b : BusN, b.rd ((c.PC + 2) % 65536) = b.rd (c.PC + 2) := fun b => rd_of b (by omega)
  have get4 : ∀ b : BusN, b.get ((c.PC + 2) % 65536) = b.get (c.PC + 2) := fun b => get_of b (by omega)
  have e2 : ((c.PC + 1) % 65536 + 1) % 65536 = (c.PC + 2) % 65536 := by omega
  unfold St.kindP dataN
  rw [hz]
  by_cases h2 : opMode n = 2
  · have k2 : opKind n = 2 := by
      rcases hk with h | h | h
      · exact h
      · exact absurd h2 h.2
      · exact absurd h2 h.2
    simp only [k2, h2, St.readP, St.place, if_true, reduceIte, Int.reduceEq, useL_atPC, get1, rd1, if_false, e2, show (sizeOfM 2).toNat = 2 from rfl]
  · have hp := place_eq c b hb (opMode n) (opKind n) (by omega)
    rcases hk with k | ⟨k, _⟩ | ⟨k, _⟩
    · simp only [k, h2, St.readP, if_true, if_false, reduceIte, Int.reduceEq] at hp ⊢
      rw [hp, useL_atPC]
    · simp only [k, h2, St.writeP, if_true, if_false, reduceIte, Int.reduceEq] at hp ⊢
      rw [hp]
    · simp only [k, h2, St.modP, if_true, if_false, reduceIte, Int.reduceEq] at hp ⊢
      rw [hp]

end Go.Proofs.YtblchdmemhhcbaaGreat
