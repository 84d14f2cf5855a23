/-
  Contracts over the program: impl's operation of any byte (operationOf), and what NameOf, ModeOf, SizeOf, CodeOf tell of it.
-/
import Derived.Test.YtblchdmemhhcbaaGreatQSAluNum
import Derived.WalkKit
import Derived.Lib.Hide
import Derived.Test.YtblchdmemhhcbaaGreatQSOpI
import Derived.Test.YtblchdmemhhcbaaGreatQSOpC
namespace Go.Proofs.YtblchdmemhhcbaaGreat
set_option linter.unusedVariables false
set_option linter.unusedSimpArgs false
open Go.RowKit

/-- The names of side 0 and one part, by row. -/
def nmRow (p : Nat) : Value := .agg #[.string (opTx (sideZeroI 0 p)), .string (opTx (sideZeroI 1 p)), .string (opTx (sideZeroI 2 p)), .string (opTx (sideZeroI 3 p)), .string (opTx (sideZeroI 4 p)), .string (opTx (sideZeroI 5 p)), .string (opTx (sideZeroI 6 p)), .string (opTx (sideZeroI 7 p))]

def nmEnts (n : Nat) : Array MapEntry := ((List.range n).map fun (i : Nat) => { key := Value.int .i64 (i : Int), val := nmRow i, born := i : MapEntry }).toArray

theorem nmEnts_push (n : Nat) : (nmEnts n).push { key := .int .i64 (n : Int), val := nmRow n, born := n } = nmEnts (n + 1) := by
  simp [nmEnts, List.range_succ]

theorem nm_new (n : Nat) (hn : n < 8) : Instr.findNow (.int .i64) (.int .i64 (n : Int)) (nmEnts n).toList 0 = some none := by
  rcases n with _ | _ | _ | _ | _ | _ | _ | _ | n <;> first | omega | kernel_rfl

theorem nm_found (p : Nat) (hp : p < 8) : Instr.findNow (.int .i64) (.int .i64 (p : Int)) (nmEnts 8).toList 0 = some (some (p, nmRow p)) := by
  rcases p with _ | _ | _ | _ | _ | _ | _ | _ | p <;> first | omega | kernel_rfl

theorem alloc_at (w : World) (o : Obj) : (w.alloc o).heap[w.heap.size]? = some o := by
  show (w.heap.push o)[w.heap.size]? = some o
  simp

theorem alloc_over (w : World) (o o' : Obj) : { w.alloc o with heap := (w.alloc o).heap.setIfInBounds w.heap.size o' } = w.alloc o' := by
  show { w with heap := (w.heap.push o).setIfInBounds w.heap.size o' } = { w with heap := w.heap.push o' }
  congr 1
  apply Array.ext'
  simp

theorem nm_put (n : Nat) (hn : n < 8) (w : World) : (Instr.mapUpdate 153 (.map (some w.heap.size)) (.int .i64 (n : Int)) (nmRow n)).run Tryz.prog (w.alloc (.map (nmEnts n) n)) = .ok () (w.alloc (.map (nmEnts (n + 1)) (n + 1))) := by
  have hb := alloc_at w (.map (nmEnts n) n)
  have hc : (Instr.checkKey false 10000 3 (.int .i64 (n : Int))).run Tryz.prog (w.alloc (.map (nmEnts n) n)) = .ok () _ := MapKept.run_checkKey Tryz.underlying3 (by simp [MapKept.IsKey]) false 9999
  have hs := MapKept.run_setObj_map (P := Tryz.prog) (.map ((nmEnts n).push { key := .int .i64 (n : Int), val := nmRow n, born := n }) (n + 1)) hb
  rw [alloc_over, nmEnts_push] at hs
  simp [Instr.mapUpdate, run_underlying Tryz.underlying153, MapKept.run_getObj_map hb, hc, MapKept.run_findKey Tryz.underlying3 (nm_new n hn), Result.andThen, nmEnts_push, hs]

theorem nm_look (p : Nat) (hp : p < 8) (w : World) : (Instr.lookup 153 (.map (some w.heap.size)) (.int .i64 (p : Int)) false).run Tryz.prog (w.alloc (.map (nmEnts 8) 8)) = .ok (nmRow p) (w.alloc (.map (nmEnts 8) 8)) := by
  have hb := alloc_at w (.map (nmEnts 8) 8)
  have hc : (Instr.checkKey (nmEnts 8).isEmpty 10000 3 (.int .i64 (p : Int))).run Tryz.prog (w.alloc (.map (nmEnts 8) 8)) = .ok () _ := MapKept.run_checkKey Tryz.underlying3 (by simp [MapKept.IsKey]) _ 9999
  simp [Instr.lookup, run_underlying Tryz.underlying153, MapKept.run_getObj_map hb, hc, MapKept.run_findKey Tryz.underlying3 (nm_found p hp), Result.andThen]

theorem nm_index (r p : Nat) (hr : r < 8) (w : World) : (Instr.index 152 (nmRow p) (.int .i64 (r : Int))).run Tryz.prog w = .ok (.string (opTx (sideZeroI r p))) w := by
  rcases r with _ | _ | _ | _ | _ | _ | _ | _ | r <;> first | omega | kernel_rfl

set_option maxRecDepth 100000 in
theorem implName0_any (r p : Nat) (hr : r < 8) (hp : p < 8) (w : World) :
    Calls Tryz.prog 102 #[.int .i64 r, .int .i64 p] w fun e w' => e = .returned (.string (opTx (sideZeroI r p))) ∧ Below w.heap.size w w' := by
  have hmm : (Instr.makeMap 153 none).run Tryz.prog w = .ok (.map (some w.heap.size)) (w.alloc (.map (nmEnts 0) 0)) := run_makeMap _ _
  have h0 : (Instr.mapUpdate 153 (.map (some w.heap.size)) (.int .i64 0) (.agg #[.string ⟨#[66, 82, 75]⟩, .string ⟨#[74, 83, 82]⟩, .string ⟨#[82, 84, 73]⟩, .string ⟨#[82, 84, 83]⟩, .string ⟨#[]⟩, .string ⟨#[76, 68, 89]⟩, .string ⟨#[67, 80, 89]⟩, .string ⟨#[67, 80, 88]⟩])).run Tryz.prog (w.alloc (.map (nmEnts 0) 0)) = .ok () (w.alloc (.map (nmEnts 1) 1)) := nm_put 0 (by omega) w
  have h1 : (Instr.mapUpdate 153 (.map (some w.heap.size)) (.int .i64 1) (.agg #[.string ⟨#[]⟩, .string ⟨#[66, 73, 84]⟩, .string ⟨#[]⟩, .string ⟨#[]⟩, .string ⟨#[83, 84, 89]⟩, .string ⟨#[76, 68, 89]⟩, .string ⟨#[67, 80, 89]⟩, .string ⟨#[67, 80, 88]⟩])).run Tryz.prog (w.alloc (.map (nmEnts 1) 1)) = .ok () (w.alloc (.map (nmEnts 2) 2)) := nm_put 1 (by omega) w
  have h2 : (Instr.mapUpdate 153 (.map (some w.heap.size)) (.int .i64 2) (.agg #[.string ⟨#[80, 72, 80]⟩, .string ⟨#[80, 76, 80]⟩, .string ⟨#[80, 72, 65]⟩, .string ⟨#[80, 76, 65]⟩, .string ⟨#[68, 69, 89]⟩, .string ⟨#[84, 65, 89]⟩, .string ⟨#[73, 78, 89]⟩, .string ⟨#[73, 78, 88]⟩])).run Tryz.prog (w.alloc (.map (nmEnts 2) 2)) = .ok () (w.alloc (.map (nmEnts 3) 3)) := nm_put 2 (by omega) w
  have h3 : (Instr.mapUpdate 153 (.map (some w.heap.size)) (.int .i64 3) (.agg #[.string ⟨#[]⟩, .string ⟨#[66, 73, 84]⟩, .string ⟨#[74, 77, 80]⟩, .string ⟨#[74, 77, 80]⟩, .string ⟨#[83, 84, 89]⟩, .string ⟨#[76, 68, 89]⟩, .string ⟨#[67, 80, 89]⟩, .string ⟨#[67, 80, 88]⟩])).run Tryz.prog (w.alloc (.map (nmEnts 3) 3)) = .ok () (w.alloc (.map (nmEnts 4) 4)) := nm_put 3 (by omega) w
  have h4 : (Instr.mapUpdate 153 (.map (some w.heap.size)) (.int .i64 4) (.agg #[.string ⟨#[66, 80, 76]⟩, .string ⟨#[66, 77, 73]⟩, .string ⟨#[66, 86, 67]⟩, .string ⟨#[66, 86, 83]⟩, .string ⟨#[66, 67, 67]⟩, .string ⟨#[66, 67, 83]⟩, .string ⟨#[66, 78, 69]⟩, .string ⟨#[66, 69, 81]⟩])).run Tryz.prog (w.alloc (.map (nmEnts 4) 4)) = .ok () (w.alloc (.map (nmEnts 5) 5)) := nm_put 4 (by omega) w
  have h5 : (Instr.mapUpdate 153 (.map (some w.heap.size)) (.int .i64 5) (.agg #[.string ⟨#[]⟩, .string ⟨#[]⟩, .string ⟨#[]⟩, .string ⟨#[]⟩, .string ⟨#[83, 84, 89]⟩, .string ⟨#[76, 68, 89]⟩, .string ⟨#[]⟩, .string ⟨#[]⟩])).run Tryz.prog (w.alloc (.map (nmEnts 5) 5)) = .ok () (w.alloc (.map (nmEnts 6) 6)) := nm_put 5 (by omega) w
  have h6 : (Instr.mapUpdate 153 (.map (some w.heap.size)) (.int .i64 6) (.agg #[.string ⟨#[67, 76, 67]⟩, .string ⟨#[83, 69, 67]⟩, .string ⟨#[67, 76, 73]⟩, .string ⟨#[83, 69, 73]⟩, .string ⟨#[84, 89, 65]⟩, .string ⟨#[67, 76, 86]⟩, .string ⟨#[67, 76, 68]⟩, .string ⟨#[83, 69, 68]⟩])).run Tryz.prog (w.alloc (.map (nmEnts 6) 6)) = .ok () (w.alloc (.map (nmEnts 7) 7)) := nm_put 6 (by omega) w
  have h7 : (Instr.mapUpdate 153 (.map (some w.heap.size)) (.int .i64 7) (.agg #[.string ⟨#[]⟩, .string ⟨#[]⟩, .string ⟨#[]⟩, .string ⟨#[]⟩, .string ⟨#[]⟩, .string ⟨#[76, 68, 89]⟩, .string ⟨#[]⟩, .string ⟨#[]⟩])).run Tryz.prog (w.alloc (.map (nmEnts 7) 7)) = .ok () (w.alloc (.map (nmEnts 8) 8)) := nm_put 7 (by omega) w
  have hl := nm_look p hp w
  have hi := nm_index r p hr
  obtain ⟨R, hR⟩ : ∃ R, nmRow p = R := ⟨_, rfl⟩
  obtain ⟨T, hT⟩ : ∃ T, opTx (sideZeroI r p) = T := ⟨_, rfl⟩
  rw [hR] at hl hi
  rw [hT] at hi
  rw [hT]
  clear hR hT
  go_enter Tryz.func102, Tryz.ntmps102
  go_wp2
  go_ret
  exact ⟨rfl, (Below.refl _ _).alloc (Nat.le_refl _) _⟩

theorem nm1_index (r : Nat) (hr : r < 8) (w : World) : (Instr.index 152 (.agg #[.string ⟨#[79, 82, 65]⟩, .string ⟨#[65, 78, 68]⟩, .string ⟨#[69, 79, 82]⟩, .string ⟨#[65, 68, 67]⟩, .string ⟨#[83, 84, 65]⟩, .string ⟨#[76, 68, 65]⟩, .string ⟨#[67, 77, 80]⟩, .string ⟨#[83, 66, 67]⟩]) (.int .i64 (r : Int))).run Tryz.prog w = .ok (.string (opTx (1 + r))) w := by
  rcases r with _ | _ | _ | _ | _ | _ | _ | _ | r <;> first | omega | kernel_rfl

set_option maxRecDepth 100000 in
theorem implName1_no (r p : Nat) (hr : r < 8) (k0 : ((r : Int) == 4) = true) (k1 : ((p : Int) == 2) = true) (w : World) :
    Calls Tryz.prog 103 #[.int .i64 r, .int .i64 p] w fun e w' => e = .returned (.string (⟨#[]⟩)) ∧ w = w' := by
  go_enter Tryz.func103, Tryz.ntmps103
  go_wp2
  all_goals go_ret
  all_goals exact ⟨rfl, rfl⟩

set_option maxRecDepth 100000 in
theorem implName1_y (r p : Nat) (hr : r < 8) (k0 : ((r : Int) == 4) = true) (k1 : ((p : Int) == 2) = false) (w : World) :
    Calls Tryz.prog 103 #[.int .i64 r, .int .i64 p] w fun e w' => e = .returned (.string (opTx (1 + r))) ∧ w = w' := by
  have hi := nm1_index r hr
  obtain ⟨T, hT⟩ : ∃ T, opTx (1 + r) = T := ⟨_, rfl⟩
  rw [hT] at hi
  rw [hT]
  clear hT
  go_enter Tryz.func103, Tryz.ntmps103
  go_wp2
  all_goals go_ret
  all_goals exact ⟨rfl, rfl⟩

set_option maxRecDepth 100000 in
theorem implName1_z (r p : Nat) (hr : r < 8) (k0 : ((r : Int) == 4) = false) (w : World) :
    Calls Tryz.prog 103 #[.int .i64 r, .int .i64 p] w fun e w' => e = .returned (.string (opTx (1 + r))) ∧ w = w' := by
  have hi := nm1_index r hr
  obtain ⟨T, hT⟩ : ∃ T, opTx (1 + r) = T := ⟨_, rfl⟩
  rw [hT] at hi
  rw [hT]
  clear hT
  go_enter Tryz.func103, Tryz.ntmps103
  go_wp2
  all_goals go_ret
  all_goals exact ⟨rfl, rfl⟩

theorem implName1_any (r p : Nat) (hr : r < 8) (w : World) :
    Calls Tryz.prog 103 #[.int .i64 r, .int .i64 p] w fun e w' => e = .returned (.string (opTx (sideOneI r p))) ∧ w = w' := by
  by_cases h4 : r = 4
  · by_cases p2 : p = 2
    · simpa [sideOneI, h4, p2, opTx] using implName1_no r p hr (by simp; omega) (by simp; omega) w
    · simpa [sideOneI, h4, p2] using implName1_y r p hr (by simp; omega) (by simp; omega) w
  · simpa [sideOneI, h4] using implName1_z r p hr (by simp; omega) w

theorem nm2_index0 (r : Nat) (hr : r < 8) (w : World) : (Instr.index 152 (.agg #[.string ⟨#[]⟩, .string ⟨#[]⟩, .string ⟨#[]⟩, .string ⟨#[]⟩, .string ⟨#[]⟩, .string ⟨#[76, 68, 88]⟩, .string ⟨#[]⟩, .string ⟨#[]⟩]) (.int .i64 (r : Int))).run Tryz.prog w = .ok (.string (opTx (sideTwoI r 0))) w := by
  rcases r with _ | _ | _ | _ | _ | _ | _ | _ | r <;> first | omega | kernel_rfl

theorem nm2_index2 (r : Nat) (hr : r < 8) (w : World) : (Instr.index 152 (.agg #[.string ⟨#[65, 83, 76]⟩, .string ⟨#[82, 79, 76]⟩, .string ⟨#[76, 83, 82]⟩, .string ⟨#[82, 79, 82]⟩, .string ⟨#[84, 88, 65]⟩, .string ⟨#[84, 65, 88]⟩, .string ⟨#[68, 69, 88]⟩, .string ⟨#[78, 79, 80]⟩]) (.int .i64 (r : Int))).run Tryz.prog w = .ok (.string (opTx (sideTwoI r 2))) w := by
  rcases r with _ | _ | _ | _ | _ | _ | _ | _ | r <;> first | omega | kernel_rfl

theorem nm2_index6 (r : Nat) (hr : r < 8) (w : World) : (Instr.index 152 (.agg #[.string ⟨#[]⟩, .string ⟨#[]⟩, .string ⟨#[]⟩, .string ⟨#[]⟩, .string ⟨#[84, 88, 83]⟩, .string ⟨#[84, 83, 88]⟩, .string ⟨#[]⟩, .string ⟨#[]⟩]) (.int .i64 (r : Int))).run Tryz.prog w = .ok (.string (opTx (sideTwoI r 6))) w := by
  rcases r with _ | _ | _ | _ | _ | _ | _ | _ | r <;> first | omega | kernel_rfl

theorem nm2_index7 (r : Nat) (hr : r < 8) (w : World) : (Instr.index 152 (.agg #[.string ⟨#[65, 83, 76]⟩, .string ⟨#[82, 79, 76]⟩, .string ⟨#[76, 83, 82]⟩, .string ⟨#[82, 79, 82]⟩, .string ⟨#[]⟩, .string ⟨#[76, 68, 88]⟩, .string ⟨#[68, 69, 67]⟩, .string ⟨#[73, 78, 67]⟩]) (.int .i64 (r : Int))).run Tryz.prog w = .ok (.string (opTx (sideTwoI r 7))) w := by
  rcases r with _ | _ | _ | _ | _ | _ | _ | _ | r <;> first | omega | kernel_rfl

theorem nm2_index9 (r : Nat) (hr : r < 8) (w : World) : (Instr.index 152 (.agg #[.string ⟨#[65, 83, 76]⟩, .string ⟨#[82, 79, 76]⟩, .string ⟨#[76, 83, 82]⟩, .string ⟨#[82, 79, 82]⟩, .string ⟨#[83, 84, 88]⟩, .string ⟨#[76, 68, 88]⟩, .string ⟨#[68, 69, 67]⟩, .string ⟨#[73, 78, 67]⟩]) (.int .i64 (r : Int))).run Tryz.prog w = .ok (.string (opTx (sideTwoI r 1))) w := by
  rcases r with _ | _ | _ | _ | _ | _ | _ | _ | r <;> first | omega | kernel_rfl

set_option maxRecDepth 100000 in
theorem implName2_0 (r p : Nat) (hr : r < 8) (k0 : ((p : Int) == 0) = true) (w : World) :
    Calls Tryz.prog 104 #[.int .i64 r, .int .i64 p] w fun e w' => e = .returned (.string (opTx (sideTwoI r 0))) ∧ w = w' := by
  have hi := nm2_index0 r hr
  obtain ⟨T, hT⟩ : ∃ T, opTx (sideTwoI r 0) = T := ⟨_, rfl⟩
  rw [hT] at hi
  rw [hT]
  clear hT
  go_enter Tryz.func104, Tryz.ntmps104
  go_wp2
  all_goals go_ret
  all_goals exact ⟨rfl, rfl⟩

set_option maxRecDepth 100000 in
theorem implName2_2 (r p : Nat) (hr : r < 8) (k0 : ((p : Int) == 0) = false) (k2 : ((p : Int) == 2) = true) (w : World) :
    Calls Tryz.prog 104 #[.int .i64 r, .int .i64 p] w fun e w' => e = .returned (.string (opTx (sideTwoI r 2))) ∧ w = w' := by
  have hi := nm2_index2 r hr
  obtain ⟨T, hT⟩ : ∃ T, opTx (sideTwoI r 2) = T := ⟨_, rfl⟩
  rw [hT] at hi
  rw [hT]
  clear hT
  go_enter Tryz.func104, Tryz.ntmps104
  go_wp2
  all_goals go_ret
  all_goals exact ⟨rfl, rfl⟩

set_option maxRecDepth 100000 in
theorem implName2_6 (r p : Nat) (hr : r < 8) (k0 : ((p : Int) == 0) = false) (k2 : ((p : Int) == 2) = false) (k4 : ((p : Int) == 4) = false) (k6 : ((p : Int) == 6) = true) (w : World) :
    Calls Tryz.prog 104 #[.int .i64 r, .int .i64 p] w fun e w' => e = .returned (.string (opTx (sideTwoI r 6))) ∧ w = w' := by
  have hi := nm2_index6 r hr
  obtain ⟨T, hT⟩ : ∃ T, opTx (sideTwoI r 6) = T := ⟨_, rfl⟩
  rw [hT] at hi
  rw [hT]
  clear hT
  go_enter Tryz.func104, Tryz.ntmps104
  go_wp2
  all_goals go_ret
  all_goals exact ⟨rfl, rfl⟩

set_option maxRecDepth 100000 in
theorem implName2_7 (r p : Nat) (hr : r < 8) (k0 : ((p : Int) == 0) = false) (k2 : ((p : Int) == 2) = false) (k4 : ((p : Int) == 4) = false) (k6 : ((p : Int) == 6) = false) (k7 : ((p : Int) == 7) = true) (w : World) :
    Calls Tryz.prog 104 #[.int .i64 r, .int .i64 p] w fun e w' => e = .returned (.string (opTx (sideTwoI r 7))) ∧ w = w' := by
  have hi := nm2_index7 r hr
  obtain ⟨T, hT⟩ : ∃ T, opTx (sideTwoI r 7) = T := ⟨_, rfl⟩
  rw [hT] at hi
  rw [hT]
  clear hT
  go_enter Tryz.func104, Tryz.ntmps104
  go_wp2
  all_goals go_ret
  all_goals exact ⟨rfl, rfl⟩

set_option maxRecDepth 100000 in
theorem implName2_9 (r p : Nat) (hr : r < 8) (k0 : ((p : Int) == 0) = false) (k2 : ((p : Int) == 2) = false) (k4 : ((p : Int) == 4) = false) (k6 : ((p : Int) == 6) = false) (k7 : ((p : Int) == 7) = false) (w : World) :
    Calls Tryz.prog 104 #[.int .i64 r, .int .i64 p] w fun e w' => e = .returned (.string (opTx (sideTwoI r 1))) ∧ w = w' := by
  have hi := nm2_index9 r hr
  obtain ⟨T, hT⟩ : ∃ T, opTx (sideTwoI r 1) = T := ⟨_, rfl⟩
  rw [hT] at hi
  rw [hT]
  clear hT
  go_enter Tryz.func104, Tryz.ntmps104
  go_wp2
  all_goals go_ret
  all_goals exact ⟨rfl, rfl⟩

set_option maxRecDepth 100000 in
theorem implName2_4 (r p : Nat) (hr : r < 8) (k0 : ((p : Int) == 0) = false) (k2 : ((p : Int) == 2) = false) (k4 : ((p : Int) == 4) = true) (w : World) :
    Calls Tryz.prog 104 #[.int .i64 r, .int .i64 p] w fun e w' => e = .returned (.string (⟨#[]⟩)) ∧ w = w' := by
  go_enter Tryz.func104, Tryz.ntmps104
  go_wp2
  all_goals go_ret
  all_goals exact ⟨rfl, rfl⟩

theorem implName2_any (r p : Nat) (hr : r < 8) (hp : p < 8) (w : World) :
    Calls Tryz.prog 104 #[.int .i64 r, .int .i64 p] w fun e w' => e = .returned (.string (opTx (sideTwoI r p))) ∧ w = w' := by
  have e1 : ∀ q, q = 1 ∨ q = 3 ∨ q = 5 → sideTwoI r q = sideTwoI r 1 := by
    rintro q (rfl | rfl | rfl) <;> rfl
  by_cases p0 : p = 0
  · subst p0; exact implName2_0 r 0 hr (by decide) w
  by_cases p2 : p = 2
  · subst p2; exact implName2_2 r 2 hr (by decide) (by decide) w
  by_cases p4 : p = 4
  · subst p4; exact implName2_4 r 4 hr (by decide) (by decide) (by decide) w
  by_cases p6 : p = 6
  · subst p6; exact implName2_6 r 6 hr (by decide) (by decide) (by decide) (by decide) w
  by_cases p7 : p = 7
  · subst p7; exact implName2_7 r 7 hr (by decide) (by decide) (by decide) (by decide) (by decide) w
  rw [e1 p (by omega)]
  exact implName2_9 r p hr (by simp; omega) (by simp; omega) (by simp; omega) (by simp; omega) (by simp; omega) w

/-- The number of the name at a place. -/
def idAt (r p s : Nat) : Nat := if s = 0 then sideZeroI r p else if s = 1 then sideOneI r p else if s = 2 then sideTwoI r p else 0

theorem idAt_op (b : Nat) (hb : b < 256) : idAt (b / 32) (b / 4 % 8) (b % 4) = opId b :=
  byte_all (p := fun b => idAt (b / 32) (b / 4 % 8) (b % 4) = opId b) (by decide +kernel) hb

set_option maxRecDepth 100000 in
theorem implNameAt_any (r p s : Nat) (hr : r < 8) (hp : p < 8) (w : World) :
    Calls Tryz.prog 70 #[.int .i64 r, .int .i64 p, .int .i64 s] w fun e w' => e = .returned (.string (opTx (idAt r p s))) ∧ Below w.heap.size w w' := by
  cases k0 : ((s : Int) == 0) with
  | true =>
    have h0 : s = 0 := by simp at k0; omega
    go_enter Tryz.func70, Tryz.ntmps70
    go_wp2_with fail
    refine (implName0_any r p hr hp _).mono ?_
    rintro e w' ⟨rfl, b1⟩
    go_wp2
    go_ret
    exact ⟨by simp [idAt, h0], b1⟩
  | false =>
    have h0 : ¬ s = 0 := by simp at k0; omega
    cases k1 : ((s : Int) == 1) with
    | true =>
      have h1 : s = 1 := by simp at k1; omega
      go_enter Tryz.func70, Tryz.ntmps70
      go_wp2_with fail
      refine (implName1_any r p hr _).mono ?_
      rintro e w' ⟨rfl, rfl⟩
      go_wp2
      go_ret
      exact ⟨by simp [idAt, h1], Below.refl _ _⟩
    | false =>
      have h1 : ¬ s = 1 := by simp at k1; omega
      cases k2 : ((s : Int) == 2) with
      | true =>
        have h2 : s = 2 := by simp at k2; omega
        go_enter Tryz.func70, Tryz.ntmps70
        go_wp2_with fail
        refine (implName2_any r p hr hp _).mono ?_
        rintro e w' ⟨rfl, rfl⟩
        go_wp2
        go_ret
        exact ⟨by simp [idAt, h2], Below.refl _ _⟩
      | false =>
        have h2 : ¬ s = 2 := by simp at k2; omega
        go_enter Tryz.func70, Tryz.ntmps70
        go_wp2
        go_ret
        exact ⟨by simp [idAt, h0, h1, h2, opTx], Below.refl _ _⟩

end Go.Proofs.YtblchdmemhhcbaaGreat

namespace Go.Proofs.YtblchdmemhhcbaaGreat
set_option linter.unusedVariables false
set_option linter.unusedSimpArgs false
open Go.RowKit

set_option maxRecDepth 100000 in
theorem implOp_none (b : Nat) (hb : b < 256) (h : opId b = 0) (w : World) :
    Calls Tryz.prog 37 #[.int .u8 b] w fun e w' => e = .returned (.agg #[.string ⟨#[]⟩, .int .i64 (-1), .int .i64 0, .int .i64 0]) ∧ Below w.heap.size w w' := by
  have hr : b / 32 < 8 := by omega
  have hp : b / 4 % 8 < 8 := by omega
  have HI := Lib.hid (idAt_op b hb)
  have HH := Lib.hid h
  have HE : (opTx 0).toList.isEmpty = true := (opTx_empty (i := 0) (by omega)).trans (by decide)
  clear h
  go_enter Tryz.func37, Tryz.ntmps37
  go_wp2_with fail
  refine (implSplit_any b hb _).mono ?_
  rintro e w0 ⟨rfl, rfl⟩
  go_wp2_with fail
  refine (implNameAt_any (b / 32) (b / 4 % 8) (b % 4) hr hp _).mono ?_
  rintro e w1 ⟨rfl, hb1⟩
  rw [HI.out, HH.out]
  obtain ⟨T, hT⟩ : ∃ T, opTx 0 = T := ⟨_, rfl⟩
  rw [hT] at HE
  rw [hT]
  clear hT
  obtain ⟨hc, hf⟩ := opcell hb1
  have hz : w.heap.size < w1.heap.size := by have := hb1.size; simp at this; omega
  go_wp2
  refine bodyPost_ret (v := .agg #[.string ⟨#[]⟩, .int .i64 (-1), .int .i64 0, .int .i64 0]) (by simp [results, Tryz.results37, go_sem, hc, hz]) rfl ⟨rfl, ?_⟩
  exact ((((((((Below.refl _ _).alloc (Nat.le_refl _) _).trans (hb1.mono (by simp))).setCell (by simp) _).setCell (by simp) _).setCell (by simp) _).setCell (by simp) _))

set_option maxRecDepth 100000 in
theorem implOp_by (b : Nat) (hb : b < 256) (T : ByteArray) (m : Int) (HI : Hid (opTx (idAt (b / 32) (b / 4 % 8) (b % 4)) = T)) (HM : Hid (imAt (b / 32) (b / 4 % 8) (b % 4) = m)) (HE : T.toList.isEmpty = false) (w : World) :
    Calls Tryz.prog 37 #[.int .u8 b] w fun e w' => e = .returned (.agg #[.string T, .int .i64 m, .int .i64 (sizeOfM m), .int .i64 (kindN T.toList m)]) ∧ Below w.heap.size w w' := by
  have hr : b / 32 < 8 := by omega
  have hp : b / 4 % 8 < 8 := by omega
  go_enter Tryz.func37, Tryz.ntmps37
  go_wp2_with fail
  refine (implSplit_any b hb _).mono ?_
  rintro e w0 ⟨rfl, rfl⟩
  go_wp2_with fail
  refine (implNameAt_any (b / 32) (b / 4 % 8) (b % 4) hr hp _).mono ?_
  rintro e w1 ⟨rfl, hb1⟩
  rw [HI.out]
  obtain ⟨hc, hf⟩ := opcell hb1
  have hz : w.heap.size < w1.heap.size := by have := hb1.size; simp at this; omega
  go_wp2_with fail
  refine (implModeAt_any (b / 32) (b / 4 % 8) (b % 4) hr hp _).mono ?_
  rintro e w2 ⟨rfl, rfl⟩
  rw [HM.out]
  go_wp2_with fail
  refine (implSizeM_any m _).mono ?_
  rintro e w2 ⟨rfl, rfl⟩
  go_wp2_with fail
  refine (implKindN_any T m _).mono ?_
  rintro e w2 ⟨rfl, rfl⟩
  go_wp2
  refine bodyPost_ret (v := .agg #[.string T, .int .i64 m, .int .i64 (sizeOfM m), .int .i64 (kindN T.toList m)]) (by simp [results, Tryz.results37, go_sem, hc, hz]) rfl ⟨rfl, ?_⟩
  exact ((((((((Below.refl _ _).alloc (Nat.le_refl _) _).trans (hb1.mono (by simp))).setCell (by simp) _).setCell (by simp) _).setCell (by simp) _).setCell (by simp) _))

theorem implOp_some (b : Nat) (hb : b < 256) (h : ¬ opId b = 0) (w : World) :
    Calls Tryz.prog 37 #[.int .u8 b] w fun e w' => e = .returned (.agg #[.string (opName b), .int .i64 (opMode b), .int .i64 (sizeOfM (opMode b)), .int .i64 (kindN (opName b).toList (opMode b))]) ∧ Below w.heap.size w w' :=
  implOp_by b hb (opName b) (opMode b) (Lib.hid (by rw [idAt_op b hb]; rfl)) (Lib.hid (imAt_op hb h)) (by rw [opName_empty hb]; simpa using h) w

theorem implOp_any (b : Nat) (hb : b < 256) (w : World) :
    Calls Tryz.prog 37 #[.int .u8 b] w fun e w' => e = .returned (.agg #[.string (opName b), .int .i64 (opMode b), .int .i64 (opSize b), .int .i64 (opKind b)]) ∧ Below w.heap.size w w' := by
  by_cases h : opId b = 0
  · have e1 : opName b = ⟨#[]⟩ := by simp [opName, h, opTx]
    have e2 : opMode b = -1 := by simp [opMode, h]
    have e3 : opSize b = 0 := by simp [opSize, h]
    have e4 : opKind b = 0 := by simp [opKind, kindBy, h]
    rw [e1, e2, e3, e4]
    exact implOp_none b hb h w
  · have e3 : opSize b = sizeOfM (opMode b) := by simp [opSize, h]
    have e4 : opKind b = kindN (opName b).toList (opMode b) := by
      have he : (opName b).data.toList.isEmpty = false := by
        have := opName_empty hb
        have e : (opName b).toList = (opName b).data.toList := ByteArray.toList_eq _
        rw [e] at this
        rw [this]; simpa using h
      have hk := kindL_op hb
      rw [kindL, if_neg (by simp [he])] at hk
      rw [ByteArray.toList_eq]
      exact hk.symm
    rw [e3, e4]
    exact implOp_some b hb h w

end Go.Proofs.YtblchdmemhhcbaaGreat
