/-
  Contracts over the program: impl's text of an operation (ShowOp), whole.
-/
import Derived.Test.YtffhjoldiicgdaaAsmI
import Derived.Test.YtffhjoldiicgdaaAsmText
import Derived.Test.YtffhjoldiicgdaaAsmLaws
namespace Go.Proofs.Ytffhjoldiicgdaa
set_option linter.unusedVariables false
set_option linter.unusedSimpArgs false
open Go.RowKit

def tT : Nat → ByteArray
  | 2 => ⟨#[32, 35, 36]⟩
  | 3 => ⟨#[32, 36]⟩
  | 4 => ⟨#[32, 36]⟩
  | 5 => ⟨#[32, 36]⟩
  | 6 => ⟨#[32, 36]⟩
  | 7 => ⟨#[32, 36]⟩
  | 8 => ⟨#[32, 36]⟩
  | 9 => ⟨#[32, 40, 36]⟩
  | 10 => ⟨#[32, 40, 36]⟩
  | 11 => ⟨#[32, 40, 36]⟩
  | 12 => ⟨#[32, 36]⟩
  | _ => ⟨#[]⟩

def tD : Nat → Nat
  | 2 => 2
  | 3 => 2
  | 4 => 2
  | 5 => 2
  | 6 => 4
  | 7 => 4
  | 8 => 4
  | 9 => 4
  | 10 => 2
  | 11 => 2
  | 12 => 4
  | _ => 2

def tU : Nat → ByteArray
  | 2 => ⟨#[]⟩
  | 3 => ⟨#[]⟩
  | 4 => ⟨#[44, 88]⟩
  | 5 => ⟨#[44, 89]⟩
  | 6 => ⟨#[]⟩
  | 7 => ⟨#[44, 88]⟩
  | 8 => ⟨#[44, 89]⟩
  | 9 => ⟨#[41]⟩
  | 10 => ⟨#[44, 88, 41]⟩
  | 11 => ⟨#[41, 44, 89]⟩
  | 12 => ⟨#[]⟩
  | _ => ⟨#[]⟩

def tX (m N : Nat) : ByteArray := tT m ++ ⟨(hexL (tD m) N).toArray⟩ ++ tU m

theorem tFacts (m : Nat) (h2 : 2 ≤ m) (h : m < 13) : mtCells.getD (3 * m - 4) undef = .string (tT m) ∧ mtCells.getD (3 * m - 4 + 1) undef = .int .i64 (tD m : Nat) ∧ mtCells.getD (3 * m - 4 + 2) undef = .string (tU m) ∧ (tT m).size ≤ 16 ∧ (tU m).size ≤ 16 ∧ (tD m = 2 ∨ tD m = 4) := by
  rcases m with _ | _ | _ | _ | _ | _ | _ | _ | _ | _ | _ | _ | _ | m <;> first | omega | exact ⟨rfl, rfl, rfl, by decide, by decide, by decide⟩

theorem numIdx (m : Nat) (h2 : 2 ≤ m) (h : m < 13) (B : Nat) (w : World) : (Instr.index 52 (mtV B) (.int .i64 (m : Int))).run Try.prog w = .ok (.func (.func 85) #[] #[.pointer (some ⟨B + (3 * m - 3), 0, none⟩), .pointer (some ⟨B + (3 * m - 3) + 1, 0, none⟩), .pointer (some ⟨B + (3 * m - 3) + 2, 0, none⟩)]) w := by
  rcases m with _ | _ | _ | _ | _ | _ | _ | _ | _ | _ | _ | _ | _ | m <;> first | omega | kernel_rfl

theorem numCalls (m : Nat) (h2 : 2 ≤ m) (h : m < 13) (N : Nat) (hN : N ≤ 65535) (W : World) (B : Nat) (hM : MtC W B) :
    Calls Try.prog 85 #[.int .i64 (N : Int), .pointer (some ⟨B + (3 * m - 3), 0, none⟩), .pointer (some ⟨B + (3 * m - 3) + 1, 0, none⟩), .pointer (some ⟨B + (3 * m - 3) + 2, 0, none⟩)] W fun e w' => e = .returned (.string (tX m N)) ∧ Below W.heap.size W w' := by
  obtain ⟨e1, e2, e3, s1, s2, hd⟩ := tFacts m h2 h
  refine numCall (i := 3 * m - 4) (d := tD m) hM (by omega) (by omega) (by omega) s1 (H := ⟨(hexL (tD m) N).toArray⟩) (by rw [hexL_size]; omega) s2 e1 e2 e3 (fun w => ?_) rfl
  have hx := implHexB (N : Int) (tD m : Int) (by omega) w
  rw [hexT_yes N (tD m) (by omega) (by omega)] at hx
  exact hx

theorem fixIdx (m : Nat) (h : m < 2) (B : Nat) (w : World) : (Instr.index 52 (mtV B) (.int .i64 (m : Int))).run Try.prog w = .ok (.func (.func 84) #[] #[.pointer (some ⟨B + (m + 1), 0, none⟩)]) w := by
  rcases m with _ | _ | m <;> first | omega | kernel_rfl

def fX (m : Nat) : ByteArray := if m = 0 then ⟨#[]⟩ else ⟨#[32, 65]⟩

theorem fixCalls (m : Nat) (h : m < 2) (n : Int) (W : World) (B : Nat) (hM : MtC W B) :
    Calls Try.prog 84 #[.int .i64 n, .pointer (some ⟨B + (m + 1), 0, none⟩)] W fun e w' => e = .returned (.string (fX m)) ∧ Below W.heap.size W w' := by
  refine fixCall (i := m) hM (by omega) rfl ?_
  rcases m with _ | _ | m <;> first | omega | rfl

/-- The number that a mode shows. -/
def tN (m x1 x2 pc : Nat) : Nat := if m = 12 then relAt pc x1 else if tD m = 2 then x1 else x1 + 256 * x2

theorem tX_tail (m : Nat) (h2 : 2 ≤ m) (h : m < 13) (x1 x2 pc : Nat) : (tX m (tN m x1 x2 pc)).data.toList = tailM (m : Int) (hexL 2 x1) (hexL 4 (x1 + 256 * x2)) (hexL 4 (relAt pc x1)) := by
  rcases m with _ | _ | _ | _ | _ | _ | _ | _ | _ | _ | _ | _ | _ | m <;> first | omega | simp [tX, tN, tT, tD, tU, tailM, ByteArray.data_append]

theorem fX_tail (m : Nat) (h : m < 2) (o t r : List UInt8) : (fX m).data.toList = tailM (m : Int) o t r := by
  rcases m with _ | _ | m <;> first | omega | simp [fX, tailM]

theorem tX_size (m : Nat) (h2 : 2 ≤ m) (h : m < 13) (N : Nat) : (tX m N).size ≤ 48 := by
  obtain ⟨_, _, _, s1, s2, hd⟩ := tFacts m h2 h
  rw [tX, ByteArray.size_append, ByteArray.size_append, hexL_size]
  omega

set_option maxRecDepth 100000 in
theorem implShow_nil (a : Option Addr) (c pc : Nat) (w : World) :
    Calls Try.prog 11 #[.slice a 0 c, .int .u16 pc] w fun e w' => e = .returned (.string ByteArray.empty) ∧ Below w.heap.size w w' := by
  go_enter Try.func11, Try.ntmps11
  go_wp2
  go_ret
  exact ⟨rfl, Below.refl _ _⟩

set_option maxRecDepth 100000 in
theorem implShow_none (g o n c x0 pc : Nat) (nm : ByteArray) (m z k : Int) (hn0 : ((n : Int) == 0) = false) (hn : (0 : Int) < n) (hE : nm.toList.isEmpty = true) (w : World) (c0 : w.cell? ⟨g, o, none⟩ = some (.int .u8 x0))
    (HO : ∀ w, Calls Try.prog 32 #[.int .u8 x0] w fun e w' => e = .returned (.agg #[.string nm, .int .i64 m, .int .i64 z, .int .i64 k]) ∧ Below w.heap.size w w') :
    Calls Try.prog 11 #[.slice (some ⟨g, o, none⟩) n c, .int .u16 pc] w fun e w' => e = .returned (.string ByteArray.empty) ∧ Below w.heap.size w w' := by
  have i0 : (0 : Int) ≤ 0 ∧ (0 : Int) < n := by omega
  go_enter Try.func11, Try.ntmps11
  go_wp2_with fail
  refine (HO _).mono ?_
  rintro e w1 ⟨rfl, b1⟩
  go_wp2
  go_ret
  exact ⟨rfl, b1.alloc b1.size _⟩

set_option maxRecDepth 100000 in
theorem implShow_few (g o n c x0 pc : Nat) (nm : ByteArray) (m z k : Int) (hn0 : ((n : Int) == 0) = false) (hn : (0 : Int) < n) (hE : nm.toList.isEmpty = false) (hnz : (n : Int) < z) (w : World) (c0 : w.cell? ⟨g, o, none⟩ = some (.int .u8 x0))
    (HO : ∀ w, Calls Try.prog 32 #[.int .u8 x0] w fun e w' => e = .returned (.agg #[.string nm, .int .i64 m, .int .i64 z, .int .i64 k]) ∧ Below w.heap.size w w') :
    Calls Try.prog 11 #[.slice (some ⟨g, o, none⟩) n c, .int .u16 pc] w fun e w' => e = .returned (.string ByteArray.empty) ∧ Below w.heap.size w w' := by
  have i0 : (0 : Int) ≤ 0 ∧ (0 : Int) < n := by omega
  go_enter Try.func11, Try.ntmps11
  go_wp2_with fail
  refine (HO _).mono ?_
  rintro e w1 ⟨rfl, b1⟩
  go_wp2
  go_ret
  exact ⟨rfl, b1.alloc b1.size _⟩

theorem showTx_fix {x0 x1 x2 pc m : Nat} (hm : opMode x0 = m) (h : m < 2) : opName x0 ++ fX m = showTx x0 x1 x2 pc := by
  apply ba_ext
  rw [showTx_list, ByteArray.data_append, Array.toList_append, fX_tail m h, hm]

theorem showTx_num {x0 x1 x2 pc m : Nat} (hm : opMode x0 = m) (h2 : 2 ≤ m) (h : m < 13) : opName x0 ++ tX m (tN m x1 x2 pc) = showTx x0 x1 x2 pc := by
  apply ba_ext
  rw [showTx_list, ByteArray.data_append, Array.toList_append, tX_tail m h2 h, hm]

theorem tD_size (m : Nat) (h2 : 2 ≤ m) (h : m < 13) : (m = 12 ∧ sizeOfM (m : Int) = 2) ∨ (m ≠ 12 ∧ sizeOfM (m : Int) = 2 ∧ tD m = 2) ∨ (m ≠ 12 ∧ sizeOfM (m : Int) = 3 ∧ tD m = 4) := by
  rcases m with _ | _ | _ | _ | _ | _ | _ | _ | _ | _ | _ | _ | _ | m <;> first | omega | decide

theorem implShow : ImplShow := by
  intro a n c x0 x1 x2 pc w h0 h1 h2 hp hnc hn h3
  by_cases hn0 : n = 0
  · subst hn0
    simpa [showOp] using implShow_nil a c pc w
  obtain ⟨g, o, rfl, hg, c0, c1, c2⟩ := h3.resolve_left hn0
  have HO := implOp_any x0 h0
  have b0 : ((n : Int) == 0) = false := by simp; omega
  have l0 : (0 : Int) < n := by omega
  by_cases hid : opId x0 = 0
  · have e : (opName x0).toList.isEmpty = true := by rw [opName_empty h0]; simpa using hid
    have hs : showOp n x0 x1 x2 pc = ByteArray.empty := by simp [showOp, opSize, hid]
    rw [hs]
    exact implShow_none g o n c x0 pc _ _ _ _ b0 l0 e w c0 HO
  have hE : (opName x0).toList.isEmpty = false := by rw [opName_empty h0]; simpa using hid
  have ez : opSize x0 = sizeOfM (opMode x0) := by simp [opSize, hid]
  have hz : opSize x0 ≠ 0 := by
    rw [ez]
    unfold sizeOfM
    repeat' split
    all_goals omega
  by_cases hf : (n : Int) < opSize x0
  · have hs : showOp n x0 x1 x2 pc = ByteArray.empty := by simp [showOp, hf]
    rw [hs]
    exact implShow_few g o n c x0 pc _ _ _ _ b0 l0 hE hf w c0 HO
  have hsh : showOp n x0 x1 x2 pc = showTx x0 x1 x2 pc := by simp [showOp, hn0, hz, hf]
  rw [hsh]
  have hnm : (opName x0).size ≤ 16 := by rw [opName, opTx_size (opId_le h0), if_neg hid]; omega
  have hm0 : 0 ≤ opMode x0 := by
    have := byte_all (p := fun b => opId b = 0 ∨ 0 ≤ opMode b) (by decide +kernel) h0
    rcases this with h | h
    · exact absurd h hid
    · exact h
  obtain ⟨m, hm⟩ := Int.eq_ofNat_of_zero_le hm0
  have hm12 : m < 13 := by have := (opMode_range h0).2; omega
  rw [hm] at HO
  by_cases hlo : m < 2
  · rw [← showTx_fix (x1 := x1) (x2 := x2) (pc := pc) hm hlo]
    have es : opSize x0 = 1 := by
      rw [ez, hm]
      rcases m with _ | _ | m <;> first | omega | rfl
    refine implShow_fix g o n c x0 pc (opName x0) (fX m) m (opSize x0) (opKind x0) 0 b0 l0 hE hf hnm (by rcases m with _ | _ | m <;> first | omega | decide) w hg c0 HO (fun W _ => ?_) (m + 1) (fun W B hM => fixCalls m hlo 0 W B hM) (fixIdx m hlo)
    exact shown_one g o n c pc _ _ _ _ (by rw [es]; rfl) W
  · have h2m : 2 ≤ m := by omega
    rw [← showTx_num (x1 := x1) (x2 := x2) (pc := pc) hm h2m hm12]
    have hN : tN m x1 x2 pc ≤ 65535 := by
      have := relAt_lt pc x1
      unfold tN
      repeat' split
      all_goals omega
    refine implShow_num g o n c x0 pc (opName x0) (tX m (tN m x1 x2 pc)) m (opSize x0) (opKind x0) (tN m x1 x2 pc : Nat) b0 l0 hE hf hnm (tX_size m h2m hm12 _) w hg c0 HO (fun W hW => ?_) (3 * m - 3) (fun W B hM => numCalls m h2m hm12 _ hN W B hM) (numIdx m h2m hm12)
    have hgW : g < W.heap.size := Nat.lt_of_lt_of_le hg hW.size
    rcases tD_size m h2m hm12 with ⟨q1, q2⟩ | ⟨q1, q2, q3⟩ | ⟨q1, q2, q3⟩
    · have es : opSize x0 = 2 := by rw [ez, hm]; exact q2
      rw [es] at hf ⊢
      have e : tN m x1 x2 pc = relAt pc x1 := by simp [tN, q1]
      rw [e]
      exact shown_rel g o n c pc x1 _ _ _ (by rw [q1]; rfl) (by omega) h1 hp W hgW (cellKept hW (c1 (by omega)) hg)
    · have es : opSize x0 = 2 := by rw [ez, hm]; exact q2
      rw [es] at hf ⊢
      have e : tN m x1 x2 pc = x1 := by simp [tN, q1, q3]
      rw [e]
      exact shown_two g o n c pc x1 _ _ _ _ rfl (by simp; omega) rfl (by omega) h1 W hgW (cellKept hW (c1 (by omega)) hg)
    · have es : opSize x0 = 3 := by rw [ez, hm]; exact q2
      rw [es] at hf ⊢
      have e : tN m x1 x2 pc = x1 + 256 * x2 := by simp [tN, q1, q3]
      rw [e]
      exact shown_three g o n c pc x1 x2 _ _ _ _ rfl (by simp; omega) rfl (by omega) h1 h2 W hgW (cellKept hW (c1 (by omega)) hg) (cellKept hW (c2 (by omega)) hg)

end Go.Proofs.Ytffhjoldiicgdaa
