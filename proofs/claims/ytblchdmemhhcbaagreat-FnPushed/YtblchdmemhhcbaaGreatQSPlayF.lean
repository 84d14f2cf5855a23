/-
  Contracts over the program: what a player does with an operand (joined, use).
-/
import Derived.Test.YtblchdmemhhcbaaGreatQSPlayG
import Derived.Test.YtblchdmemhhcbaaGreatQSPlayL2
import Derived.Test.YtblchdmemhhcbaaGreatQSAluNum
import Derived.Test.YtblchdmemhhcbaaGreatQSPlayB
import Derived.Test.YtblchdmemhhcbaaGreatQSAluD
import Derived.Test.YtblchdmemhhcbaaGreatQSStepA
namespace Go.Proofs.YtblchdmemhhcbaaGreat
set_option linter.unusedVariables false
set_option linter.unusedSimpArgs false
open Go.RowKit

theorem Play.imp_any {F : Nat → Prop} {w W : World} {P : Nat} {o : Option Nat} {k : OpK} {s : St} {N : Nat} (p : Play F w W P o k s N) (i : Nat) (hi : i ∈ [17, 18, 19, 20, 21, 22, 37, 38, 39, 40, 49, 50, 51, 52, 53, 54, 55, 56]) (hk : k.nm = opTx i) (hm : k.md = 0) (hN : N ≤ 80) {s' : St} (hs : (⟨impL s.c (opTx i).toList 0, s.b.rd s.c.PC⟩ : St) = s') :
    Calls Tryz.prog 108 #[.pointer (some ⟨P, 0, none⟩)] W fun e w' => e = .returned (.tuple #[]) ∧ Play F w w' P o k s' (N + 1) := by
  have hN : N ≤ 88 := by omega
  simp only [List.mem_cons, List.not_mem_nil, or_false] at hi
  rcases hi with rfl | rfl | rfl | rfl | rfl | rfl | rfl | rfl | rfl | rfl | rfl | rfl | rfl | rfl | rfl | rfl | rfl | rfl
  · rw [show (opTx 17).toList = [84, 88, 65] by rw [ByteArray.toList_eq]; rfl] at hs; exact p.implied_TXA hk hm hN hs
  · rw [show (opTx 18).toList = [84, 65, 88] by rw [ByteArray.toList_eq]; rfl] at hs; exact p.implied_TAX hk hm hN hs
  · rw [show (opTx 19).toList = [68, 69, 88] by rw [ByteArray.toList_eq]; rfl] at hs; exact p.implied_DEX hk hm hN hs
  · rw [show (opTx 20).toList = [78, 79, 80] by rw [ByteArray.toList_eq]; rfl] at hs; exact p.implied_NOP hk hm hN hs
  · rw [show (opTx 21).toList = [84, 88, 83] by rw [ByteArray.toList_eq]; rfl] at hs; exact p.implied_TXS hk hm hN hs
  · rw [show (opTx 22).toList = [84, 83, 88] by rw [ByteArray.toList_eq]; rfl] at hs; exact p.implied_TSX hk hm hN hs
  · rw [show (opTx 37).toList = [68, 69, 89] by rw [ByteArray.toList_eq]; rfl] at hs; exact p.implied_DEY hk hm hN hs
  · rw [show (opTx 38).toList = [84, 65, 89] by rw [ByteArray.toList_eq]; rfl] at hs; exact p.implied_TAY hk hm hN hs
  · rw [show (opTx 39).toList = [73, 78, 89] by rw [ByteArray.toList_eq]; rfl] at hs; exact p.implied_INY hk hm hN hs
  · rw [show (opTx 40).toList = [73, 78, 88] by rw [ByteArray.toList_eq]; rfl] at hs; exact p.implied_INX hk hm hN hs
  · rw [show (opTx 49).toList = [67, 76, 67] by rw [ByteArray.toList_eq]; rfl] at hs; exact p.implied_CLC hk hm hN hs
  · rw [show (opTx 50).toList = [83, 69, 67] by rw [ByteArray.toList_eq]; rfl] at hs; exact p.implied_SEC hk hm hN hs
  · rw [show (opTx 51).toList = [67, 76, 73] by rw [ByteArray.toList_eq]; rfl] at hs; exact p.implied_CLI hk hm hN hs
  · rw [show (opTx 52).toList = [83, 69, 73] by rw [ByteArray.toList_eq]; rfl] at hs; exact p.implied_SEI hk hm hN hs
  · rw [show (opTx 53).toList = [84, 89, 65] by rw [ByteArray.toList_eq]; rfl] at hs; exact p.implied_TYA hk hm hN hs
  · rw [show (opTx 54).toList = [67, 76, 86] by rw [ByteArray.toList_eq]; rfl] at hs; exact p.implied_CLV hk hm hN hs
  · rw [show (opTx 55).toList = [67, 76, 68] by rw [ByteArray.toList_eq]; rfl] at hs; exact p.implied_CLD hk hm hN hs
  · rw [show (opTx 56).toList = [83, 69, 68] by rw [ByteArray.toList_eq]; rfl] at hs; exact p.implied_SED hk hm hN hs

theorem Play.acc_any {F : Nat → Prop} {w W : World} {P : Nat} {o : Option Nat} {k : OpK} {s : St} {N : Nat} (p : Play F w W P o k s N) (i : Nat) (hi : i ∈ [9, 10, 11, 12]) (hk : k.nm = opTx i) (hm : k.md = 1) (hN : N ≤ 80) {s' : St} (hs : (⟨impL s.c (opTx i).toList 1, s.b.rd s.c.PC⟩ : St) = s') :
    Calls Tryz.prog 108 #[.pointer (some ⟨P, 0, none⟩)] W fun e w' => e = .returned (.tuple #[]) ∧ Play F w w' P o k s' (N + 1) := by
  have hN : N ≤ 88 := by omega
  simp only [List.mem_cons, List.not_mem_nil, or_false] at hi
  rcases hi with rfl | rfl | rfl | rfl
  · rw [show (opTx 9).toList = [65, 83, 76] by rw [ByteArray.toList_eq]; rfl] at hs; exact p.acc_ASL hk hm hN hs
  · rw [show (opTx 10).toList = [82, 79, 76] by rw [ByteArray.toList_eq]; rfl] at hs; exact p.acc_ROL hk hm hN hs
  · rw [show (opTx 11).toList = [76, 83, 82] by rw [ByteArray.toList_eq]; rfl] at hs; exact p.acc_LSR hk hm hN hs
  · rw [show (opTx 12).toList = [82, 79, 82] by rw [ByteArray.toList_eq]; rfl] at hs; exact p.acc_ROR hk hm hN hs

end Go.Proofs.YtblchdmemhhcbaaGreat

namespace Go.Proofs.YtblchdmemhhcbaaGreat
set_option linter.unusedVariables false
set_option linter.unusedSimpArgs false
open Go.RowKit

set_option maxRecDepth 100000 in
theorem Play.joined_LDA {F : Nat → Prop} {w W : World} {P : Nat} {o : Option Nat} {k : OpK} {s : St} {N : Nat} (p : Play F w W P o k s N) (hk : k.nm = ⟨#[76, 68, 65]⟩) (m : Nat) (hm : m < 256) :
    Calls Tryz.prog 165 #[.pointer (some ⟨P, 0, none⟩), .int .u8 (m : Int)] W fun e w' => e = .returned (.int .u8 ((m : Nat) : Int)) ∧ W = w' := by
  obtain ⟨hA, hX, hY, hS, hP⟩ := p.pl.ok
  obtain ⟨g0, g1, g2, g3, g4, g5, g6, g7, g8, g9, g10, g11, g12, g13, g15, gf⟩ := p.cells
  rw [hk] at g12
  go_enter Tryz.func165, Tryz.ntmps165
  go_wp2
  go_ret
  refine ⟨?_, rfl⟩
  first | rfl | exact congrArg (fun v => Ending.returned (Value.int .u8 v)) (by first | rfl | omega | (simp [IntKind.wrap, IntKind.bits, IntKind.signed]; omega))

set_option maxRecDepth 100000 in
theorem Play.joined_ORA {F : Nat → Prop} {w W : World} {P : Nat} {o : Option Nat} {k : OpK} {s : St} {N : Nat} (p : Play F w W P o k s N) (hk : k.nm = ⟨#[79, 82, 65]⟩) (m : Nat) (hm : m < 256) {x : Nat} (hx : bits .or .u8 s.c.A m = (x : Int)) :
    Calls Tryz.prog 165 #[.pointer (some ⟨P, 0, none⟩), .int .u8 (m : Int)] W fun e w' => e = .returned (.int .u8 ((x : Nat) : Int)) ∧ W = w' := by
  obtain ⟨hA, hX, hY, hS, hP⟩ := p.pl.ok
  obtain ⟨g0, g1, g2, g3, g4, g5, g6, g7, g8, g9, g10, g11, g12, g13, g15, gf⟩ := p.cells
  rw [hk] at g12
  go_enter Tryz.func165, Tryz.ntmps165
  go_wp2
  go_ret
  refine ⟨?_, rfl⟩
  first | rfl | exact congrArg (fun v => Ending.returned (Value.int .u8 v)) (by first | rfl | omega | (simp [IntKind.wrap, IntKind.bits, IntKind.signed]; omega))

set_option maxRecDepth 100000 in
theorem Play.joined_AND {F : Nat → Prop} {w W : World} {P : Nat} {o : Option Nat} {k : OpK} {s : St} {N : Nat} (p : Play F w W P o k s N) (hk : k.nm = ⟨#[65, 78, 68]⟩) (m : Nat) (hm : m < 256) {x : Nat} (hx : bits .and .u8 s.c.A m = (x : Int)) :
    Calls Tryz.prog 165 #[.pointer (some ⟨P, 0, none⟩), .int .u8 (m : Int)] W fun e w' => e = .returned (.int .u8 ((x : Nat) : Int)) ∧ W = w' := by
  obtain ⟨hA, hX, hY, hS, hP⟩ := p.pl.ok
  obtain ⟨g0, g1, g2, g3, g4, g5, g6, g7, g8, g9, g10, g11, g12, g13, g15, gf⟩ := p.cells
  rw [hk] at g12
  go_enter Tryz.func165, Tryz.ntmps165
  go_wp2
  go_ret
  refine ⟨?_, rfl⟩
  first | rfl | exact congrArg (fun v => Ending.returned (Value.int .u8 v)) (by first | rfl | omega | (simp [IntKind.wrap, IntKind.bits, IntKind.signed]; omega))

set_option maxRecDepth 100000 in
theorem Play.joined_EOR {F : Nat → Prop} {w W : World} {P : Nat} {o : Option Nat} {k : OpK} {s : St} {N : Nat} (p : Play F w W P o k s N) (hk : k.nm = ⟨#[69, 79, 82]⟩) (m : Nat) (hm : m < 256) {x : Nat} (hx : bits .xor .u8 s.c.A m = (x : Int)) :
    Calls Tryz.prog 165 #[.pointer (some ⟨P, 0, none⟩), .int .u8 (m : Int)] W fun e w' => e = .returned (.int .u8 ((x : Nat) : Int)) ∧ W = w' := by
  obtain ⟨hA, hX, hY, hS, hP⟩ := p.pl.ok
  obtain ⟨g0, g1, g2, g3, g4, g5, g6, g7, g8, g9, g10, g11, g12, g13, g15, gf⟩ := p.cells
  rw [hk] at g12
  go_enter Tryz.func165, Tryz.ntmps165
  go_wp2
  go_ret
  refine ⟨?_, rfl⟩
  first | rfl | exact congrArg (fun v => Ending.returned (Value.int .u8 v)) (by first | rfl | omega | (simp [IntKind.wrap, IntKind.bits, IntKind.signed]; omega))

set_option maxRecDepth 100000 in
set_option maxHeartbeats 2000000 in
theorem Play.use_LDX {F : Nat → Prop} {w W : World} {P : Nat} {o : Option Nat} {k : OpK} {s : St} {N : Nat} (p : Play F w W P o k s N) (hk : k.nm = ⟨#[76, 68, 88]⟩) (m : Nat) (hm : m < 256) (hN : N ≤ 90) {s' : St} (hs : ⟨useL s.c [76, 68, 88] m, s.b⟩ = s') :
    Calls Tryz.prog 141 #[.pointer (some ⟨P, 0, none⟩), .int .u8 (m : Int)] W fun e w' => e = .returned (.tuple #[]) ∧ Play F w w' P o k s' (N + 0) := by
  obtain ⟨hA, hX, hY, hS, hP⟩ := p.pl.ok
  go_enter Tryz.func141, Tryz.ntmps141
  obtain ⟨g0, g1, g2, g3, g4, g5, g6, g7, g8, g9, g10, g11, g12, g13, g15, gf⟩ := p.cells
  rw [hk] at g12
  go_wp2_with fail
  have p1 := p.setX _ (m) rfl (by omega) rfl
  clear g0 g1 g2 g3 g4 g5 g6 g7 g8 g9 g10 g11 g12 g13 g15 gf
  generalize W.setCell ⟨P, 1, none⟩ (.int .u8 ((m : Nat) : Int)) = W2 at p1 ⊢
  obtain ⟨g0, g1, g2, g3, g4, g5, g6, g7, g8, g9, g10, g11, g12, g13, g15, gf⟩ := p1.cells
  rw [hk] at g12
  go_wp2_with fail
  clear g0 g1 g2 g3 g4 g5 g6 g7 g8 g9 g10 g11 g12 g13 g15 gf
  go_wp2_with fail
  have p3 := p1.drew
  have g1 := p3.cells.2.1
  have g5 := p3.cells.2.2.2.2.2.1
  have g6 := p3.cells.2.2.2.2.2.2.1
  have g7 := p3.cells.2.2.2.2.2.2.2.1
  have g8 := p3.cells.2.2.2.2.2.2.2.2.1
  have g9 := p3.cells.2.2.2.2.2.2.2.2.2.1
  have g10 := p3.cells.2.2.2.2.2.2.2.2.2.2.1
  have gf := p3.cells.2.2.2.2.2.2.2.2.2.2.2.2.2.2.2
  go_region_with (go_at_call 139; refine (implNZ_any _ _ _ _ _ _ _ _ (by omega) (by omega)).mono ?_; rintro e w4 ⟨rfl, d5⟩; (have p6 := p3.below d5); clear g1 g5 g6 g7 g8 g9 g10 gf; (have g1 := p6.cells.2.1); (have g5 := p6.cells.2.2.2.2.2.1); (have g6 := p6.cells.2.2.2.2.2.2.1); (have g7 := p6.cells.2.2.2.2.2.2.2.1); (have g8 := p6.cells.2.2.2.2.2.2.2.2.1); (have g9 := p6.cells.2.2.2.2.2.2.2.2.2.1); (have g10 := p6.cells.2.2.2.2.2.2.2.2.2.2.1); (have gf := p6.cells.2.2.2.2.2.2.2.2.2.2.2.2.2.2.2))
  all_goals
    go_wp2
    (try simp only [Exit.inBlock, Exit.then])
    first | refine bodyPost_ret (results_none rfl _ _ _) rfl ?_ | refine bodyPost_end (results_none rfl _ _ _) rfl ?_
    refine ⟨rfl, ?_⟩
    exact p6.flags _ _ _ _ _ _ (by rw [← hs]; simp [useL, CpuN.nz])

set_option maxRecDepth 100000 in
set_option maxHeartbeats 2000000 in
theorem Play.use_LDY {F : Nat → Prop} {w W : World} {P : Nat} {o : Option Nat} {k : OpK} {s : St} {N : Nat} (p : Play F w W P o k s N) (hk : k.nm = ⟨#[76, 68, 89]⟩) (m : Nat) (hm : m < 256) (hN : N ≤ 90) {s' : St} (hs : ⟨useL s.c [76, 68, 89] m, s.b⟩ = s') :
    Calls Tryz.prog 141 #[.pointer (some ⟨P, 0, none⟩), .int .u8 (m : Int)] W fun e w' => e = .returned (.tuple #[]) ∧ Play F w w' P o k s' (N + 0) := by
  obtain ⟨hA, hX, hY, hS, hP⟩ := p.pl.ok
  go_enter Tryz.func141, Tryz.ntmps141
  obtain ⟨g0, g1, g2, g3, g4, g5, g6, g7, g8, g9, g10, g11, g12, g13, g15, gf⟩ := p.cells
  rw [hk] at g12
  go_wp2_with fail
  have p1 := p.setY _ (m) rfl (by omega) rfl
  clear g0 g1 g2 g3 g4 g5 g6 g7 g8 g9 g10 g11 g12 g13 g15 gf
  generalize W.setCell ⟨P, 2, none⟩ (.int .u8 ((m : Nat) : Int)) = W2 at p1 ⊢
  obtain ⟨g0, g1, g2, g3, g4, g5, g6, g7, g8, g9, g10, g11, g12, g13, g15, gf⟩ := p1.cells
  rw [hk] at g12
  go_wp2_with fail
  clear g0 g1 g2 g3 g4 g5 g6 g7 g8 g9 g10 g11 g12 g13 g15 gf
  go_wp2_with fail
  have p3 := p1.drew
  have g2 := p3.cells.2.2.1
  have g5 := p3.cells.2.2.2.2.2.1
  have g6 := p3.cells.2.2.2.2.2.2.1
  have g7 := p3.cells.2.2.2.2.2.2.2.1
  have g8 := p3.cells.2.2.2.2.2.2.2.2.1
  have g9 := p3.cells.2.2.2.2.2.2.2.2.2.1
  have g10 := p3.cells.2.2.2.2.2.2.2.2.2.2.1
  have gf := p3.cells.2.2.2.2.2.2.2.2.2.2.2.2.2.2.2
  go_region_with (go_at_call 139; refine (implNZ_any _ _ _ _ _ _ _ _ (by omega) (by omega)).mono ?_; rintro e w4 ⟨rfl, d5⟩; (have p6 := p3.below d5); clear g2 g5 g6 g7 g8 g9 g10 gf; (have g2 := p6.cells.2.2.1); (have g5 := p6.cells.2.2.2.2.2.1); (have g6 := p6.cells.2.2.2.2.2.2.1); (have g7 := p6.cells.2.2.2.2.2.2.2.1); (have g8 := p6.cells.2.2.2.2.2.2.2.2.1); (have g9 := p6.cells.2.2.2.2.2.2.2.2.2.1); (have g10 := p6.cells.2.2.2.2.2.2.2.2.2.2.1); (have gf := p6.cells.2.2.2.2.2.2.2.2.2.2.2.2.2.2.2))
  all_goals
    go_wp2
    (try simp only [Exit.inBlock, Exit.then])
    first | refine bodyPost_ret (results_none rfl _ _ _) rfl ?_ | refine bodyPost_end (results_none rfl _ _ _) rfl ?_
    refine ⟨rfl, ?_⟩
    exact p6.flags _ _ _ _ _ _ (by rw [← hs]; simp [useL, CpuN.nz])

set_option maxRecDepth 100000 in
set_option maxHeartbeats 2000000 in
theorem Play.use_LDA {F : Nat → Prop} {w W : World} {P : Nat} {o : Option Nat} {k : OpK} {s : St} {N : Nat} (p : Play F w W P o k s N) (hk : k.nm = ⟨#[76, 68, 65]⟩) (m : Nat) (hm : m < 256) (hN : N ≤ 90) {s' : St} (hs : ⟨useL s.c [76, 68, 65] m, s.b⟩ = s') :
    Calls Tryz.prog 141 #[.pointer (some ⟨P, 0, none⟩), .int .u8 (m : Int)] W fun e w' => e = .returned (.tuple #[]) ∧ Play F w w' P o k s' (N + 0) := by
  obtain ⟨hA, hX, hY, hS, hP⟩ := p.pl.ok
  go_enter Tryz.func141, Tryz.ntmps141
  obtain ⟨g0, g1, g2, g3, g4, g5, g6, g7, g8, g9, g10, g11, g12, g13, g15, gf⟩ := p.cells
  rw [hk] at g12
  go_wp2_with fail
  refine (p.joined_LDA hk m hm).mono ?_
  rintro e w1 ⟨rfl, rfl⟩
  go_wp2_with fail
  have p2 := p.setA _ (m) rfl (by omega) rfl
  clear g0 g1 g2 g3 g4 g5 g6 g7 g8 g9 g10 g11 g12 g13 g15 gf
  generalize W.setCell ⟨P, 0, none⟩ (.int .u8 ((m : Nat) : Int)) = W3 at p2 ⊢
  obtain ⟨g0, g1, g2, g3, g4, g5, g6, g7, g8, g9, g10, g11, g12, g13, g15, gf⟩ := p2.cells
  rw [hk] at g12
  go_wp2_with fail
  clear g0 g1 g2 g3 g4 g5 g6 g7 g8 g9 g10 g11 g12 g13 g15 gf
  go_wp2_with fail
  have p4 := p2.drew
  have g0 := p4.cells.1
  have g5 := p4.cells.2.2.2.2.2.1
  have g6 := p4.cells.2.2.2.2.2.2.1
  have g7 := p4.cells.2.2.2.2.2.2.2.1
  have g8 := p4.cells.2.2.2.2.2.2.2.2.1
  have g9 := p4.cells.2.2.2.2.2.2.2.2.2.1
  have g10 := p4.cells.2.2.2.2.2.2.2.2.2.2.1
  have gf := p4.cells.2.2.2.2.2.2.2.2.2.2.2.2.2.2.2
  go_region_with (go_at_call 139; refine (implNZ_any _ _ _ _ _ _ _ _ (by omega) (by omega)).mono ?_; rintro e w5 ⟨rfl, d6⟩; (have p7 := p4.below d6); clear g0 g5 g6 g7 g8 g9 g10 gf; (have g0 := p7.cells.1); (have g5 := p7.cells.2.2.2.2.2.1); (have g6 := p7.cells.2.2.2.2.2.2.1); (have g7 := p7.cells.2.2.2.2.2.2.2.1); (have g8 := p7.cells.2.2.2.2.2.2.2.2.1); (have g9 := p7.cells.2.2.2.2.2.2.2.2.2.1); (have g10 := p7.cells.2.2.2.2.2.2.2.2.2.2.1); (have gf := p7.cells.2.2.2.2.2.2.2.2.2.2.2.2.2.2.2))
  all_goals
    go_wp2
    (try simp only [Exit.inBlock, Exit.then])
    first | refine bodyPost_ret (results_none rfl _ _ _) rfl ?_ | refine bodyPost_end (results_none rfl _ _ _) rfl ?_
    refine ⟨rfl, ?_⟩
    exact p7.flags _ _ _ _ _ _ (by rw [← hs]; simp [useL, CpuN.nz])

set_option maxRecDepth 100000 in
set_option maxHeartbeats 2000000 in
theorem Play.use_ORA {F : Nat → Prop} {w W : World} {P : Nat} {o : Option Nat} {k : OpK} {s : St} {N : Nat} (p : Play F w W P o k s N) (hk : k.nm = ⟨#[79, 82, 65]⟩) (m : Nat) (hm : m < 256) (hN : N ≤ 90) {s' : St} (hs : ⟨useL s.c [79, 82, 65] m, s.b⟩ = s') :
    Calls Tryz.prog 141 #[.pointer (some ⟨P, 0, none⟩), .int .u8 (m : Int)] W fun e w' => e = .returned (.tuple #[]) ∧ Play F w w' P o k s' (N + 0) := by
  obtain ⟨hA, hX, hY, hS, hP⟩ := p.pl.ok
  obtain ⟨x, hx⟩ := nat_of (bits_u8_bd .or (s.c.A : Int) (m : Int)).1
  have hxb : x < 256 := by have := (bits_u8_bd .or (s.c.A : Int) (m : Int)).2; omega
  have Hx := Lib.hid hx
  clear hx
  go_enter Tryz.func141, Tryz.ntmps141
  obtain ⟨g0, g1, g2, g3, g4, g5, g6, g7, g8, g9, g10, g11, g12, g13, g15, gf⟩ := p.cells
  rw [hk] at g12
  go_wp2_with fail
  refine (p.joined_ORA hk m hm Hx.out).mono ?_
  rintro e w1 ⟨rfl, rfl⟩
  go_wp2_with fail
  have p2 := p.setA _ (x) rfl (by omega) rfl
  clear g0 g1 g2 g3 g4 g5 g6 g7 g8 g9 g10 g11 g12 g13 g15 gf
  generalize W.setCell ⟨P, 0, none⟩ (.int .u8 ((x : Nat) : Int)) = W3 at p2 ⊢
  obtain ⟨g0, g1, g2, g3, g4, g5, g6, g7, g8, g9, g10, g11, g12, g13, g15, gf⟩ := p2.cells
  rw [hk] at g12
  go_wp2_with fail
  clear g0 g1 g2 g3 g4 g5 g6 g7 g8 g9 g10 g11 g12 g13 g15 gf
  go_wp2_with fail
  have p4 := p2.drew
  have g0 := p4.cells.1
  have g5 := p4.cells.2.2.2.2.2.1
  have g6 := p4.cells.2.2.2.2.2.2.1
  have g7 := p4.cells.2.2.2.2.2.2.2.1
  have g8 := p4.cells.2.2.2.2.2.2.2.2.1
  have g9 := p4.cells.2.2.2.2.2.2.2.2.2.1
  have g10 := p4.cells.2.2.2.2.2.2.2.2.2.2.1
  have gf := p4.cells.2.2.2.2.2.2.2.2.2.2.2.2.2.2.2
  go_region_with (go_at_call 139; refine (implNZ_any _ _ _ _ _ _ _ _ (by omega) (by omega)).mono ?_; rintro e w5 ⟨rfl, d6⟩; (have p7 := p4.below d6); clear g0 g5 g6 g7 g8 g9 g10 gf; (have g0 := p7.cells.1); (have g5 := p7.cells.2.2.2.2.2.1); (have g6 := p7.cells.2.2.2.2.2.2.1); (have g7 := p7.cells.2.2.2.2.2.2.2.1); (have g8 := p7.cells.2.2.2.2.2.2.2.2.1); (have g9 := p7.cells.2.2.2.2.2.2.2.2.2.1); (have g10 := p7.cells.2.2.2.2.2.2.2.2.2.2.1); (have gf := p7.cells.2.2.2.2.2.2.2.2.2.2.2.2.2.2.2))
  all_goals
    go_wp2
    (try simp only [Exit.inBlock, Exit.then])
    first | refine bodyPost_ret (results_none rfl _ _ _) rfl ?_ | refine bodyPost_end (results_none rfl _ _ _) rfl ?_
    refine ⟨rfl, ?_⟩
    exact p7.flags _ _ _ _ _ _ (by rw [← hs]; simp [useL, CpuN.nz, Hx.out])

set_option maxRecDepth 100000 in
set_option maxHeartbeats 2000000 in
theorem Play.use_AND {F : Nat → Prop} {w W : World} {P : Nat} {o : Option Nat} {k : OpK} {s : St} {N : Nat} (p : Play F w W P o k s N) (hk : k.nm = ⟨#[65, 78, 68]⟩) (m : Nat) (hm : m < 256) (hN : N ≤ 90) {s' : St} (hs : ⟨useL s.c [65, 78, 68] m, s.b⟩ = s') :
    Calls Tryz.prog 141 #[.pointer (some ⟨P, 0, none⟩), .int .u8 (m : Int)] W fun e w' => e = .returned (.tuple #[]) ∧ Play F w w' P o k s' (N + 0) := by
  obtain ⟨hA, hX, hY, hS, hP⟩ := p.pl.ok
  obtain ⟨x, hx⟩ := nat_of (bits_u8_bd .and (s.c.A : Int) (m : Int)).1
  have hxb : x < 256 := by have := (bits_u8_bd .and (s.c.A : Int) (m : Int)).2; omega
  have Hx := Lib.hid hx
  clear hx
  go_enter Tryz.func141, Tryz.ntmps141
  obtain ⟨g0, g1, g2, g3, g4, g5, g6, g7, g8, g9, g10, g11, g12, g13, g15, gf⟩ := p.cells
  rw [hk] at g12
  go_wp2_with fail
  refine (p.joined_AND hk m hm Hx.out).mono ?_
  rintro e w1 ⟨rfl, rfl⟩
  go_wp2_with fail
  have p2 := p.setA _ (x) rfl (by omega) rfl
  clear g0 g1 g2 g3 g4 g5 g6 g7 g8 g9 g10 g11 g12 g13 g15 gf
  generalize W.setCell ⟨P, 0, none⟩ (.int .u8 ((x : Nat) : Int)) = W3 at p2 ⊢
  obtain ⟨g0, g1, g2, g3, g4, g5, g6, g7, g8, g9, g10, g11, g12, g13, g15, gf⟩ := p2.cells
  rw [hk] at g12
  go_wp2_with fail
  clear g0 g1 g2 g3 g4 g5 g6 g7 g8 g9 g10 g11 g12 g13 g15 gf
  go_wp2_with fail
  have p4 := p2.drew
  have g0 := p4.cells.1
  have g5 := p4.cells.2.2.2.2.2.1
  have g6 := p4.cells.2.2.2.2.2.2.1
  have g7 := p4.cells.2.2.2.2.2.2.2.1
  have g8 := p4.cells.2.2.2.2.2.2.2.2.1
  have g9 := p4.cells.2.2.2.2.2.2.2.2.2.1
  have g10 := p4.cells.2.2.2.2.2.2.2.2.2.2.1
  have gf := p4.cells.2.2.2.2.2.2.2.2.2.2.2.2.2.2.2
  go_region_with (go_at_call 139; refine (implNZ_any _ _ _ _ _ _ _ _ (by omega) (by omega)).mono ?_; rintro e w5 ⟨rfl, d6⟩; (have p7 := p4.below d6); clear g0 g5 g6 g7 g8 g9 g10 gf; (have g0 := p7.cells.1); (have g5 := p7.cells.2.2.2.2.2.1); (have g6 := p7.cells.2.2.2.2.2.2.1); (have g7 := p7.cells.2.2.2.2.2.2.2.1); (have g8 := p7.cells.2.2.2.2.2.2.2.2.1); (have g9 := p7.cells.2.2.2.2.2.2.2.2.2.1); (have g10 := p7.cells.2.2.2.2.2.2.2.2.2.2.1); (have gf := p7.cells.2.2.2.2.2.2.2.2.2.2.2.2.2.2.2))
  all_goals
    go_wp2
    (try simp only [Exit.inBlock, Exit.then])
    first | refine bodyPost_ret (results_none rfl _ _ _) rfl ?_ | refine bodyPost_end (results_none rfl _ _ _) rfl ?_
    refine ⟨rfl, ?_⟩
    exact p7.flags _ _ _ _ _ _ (by rw [← hs]; simp [useL, CpuN.nz, Hx.out])

set_option maxRecDepth 100000 in
set_option maxHeartbeats 2000000 in
theorem Play.use_EOR {F : Nat → Prop} {w W : World} {P : Nat} {o : Option Nat} {k : OpK} {s : St} {N : Nat} (p : Play F w W P o k s N) (hk : k.nm = ⟨#[69, 79, 82]⟩) (m : Nat) (hm : m < 256) (hN : N ≤ 90) {s' : St} (hs : ⟨useL s.c [69, 79, 82] m, s.b⟩ = s') :
    Calls Tryz.prog 141 #[.pointer (some ⟨P, 0, none⟩), .int .u8 (m : Int)] W fun e w' => e = .returned (.tuple #[]) ∧ Play F w w' P o k s' (N + 0) := by
  obtain ⟨hA, hX, hY, hS, hP⟩ := p.pl.ok
  obtain ⟨x, hx⟩ := nat_of (bits_u8_bd .xor (s.c.A : Int) (m : Int)).1
  have hxb : x < 256 := by have := (bits_u8_bd .xor (s.c.A : Int) (m : Int)).2; omega
  have Hx := Lib.hid hx
  clear hx
  go_enter Tryz.func141, Tryz.ntmps141
  obtain ⟨g0, g1, g2, g3, g4, g5, g6, g7, g8, g9, g10, g11, g12, g13, g15, gf⟩ := p.cells
  rw [hk] at g12
  go_wp2_with fail
  refine (p.joined_EOR hk m hm Hx.out).mono ?_
  rintro e w1 ⟨rfl, rfl⟩
  go_wp2_with fail
  have p2 := p.setA _ (x) rfl (by omega) rfl
  clear g0 g1 g2 g3 g4 g5 g6 g7 g8 g9 g10 g11 g12 g13 g15 gf
  generalize W.setCell ⟨P, 0, none⟩ (.int .u8 ((x : Nat) : Int)) = W3 at p2 ⊢
  obtain ⟨g0, g1, g2, g3, g4, g5, g6, g7, g8, g9, g10, g11, g12, g13, g15, gf⟩ := p2.cells
  rw [hk] at g12
  go_wp2_with fail
  clear g0 g1 g2 g3 g4 g5 g6 g7 g8 g9 g10 g11 g12 g13 g15 gf
  go_wp2_with fail
  have p4 := p2.drew
  have g0 := p4.cells.1
  have g5 := p4.cells.2.2.2.2.2.1
  have g6 := p4.cells.2.2.2.2.2.2.1
  have g7 := p4.cells.2.2.2.2.2.2.2.1
  have g8 := p4.cells.2.2.2.2.2.2.2.2.1
  have g9 := p4.cells.2.2.2.2.2.2.2.2.2.1
  have g10 := p4.cells.2.2.2.2.2.2.2.2.2.2.1
  have gf := p4.cells.2.2.2.2.2.2.2.2.2.2.2.2.2.2.2
  go_region_with (go_at_call 139; refine (implNZ_any _ _ _ _ _ _ _ _ (by omega) (by omega)).mono ?_; rintro e w5 ⟨rfl, d6⟩; (have p7 := p4.below d6); clear g0 g5 g6 g7 g8 g9 g10 gf; (have g0 := p7.cells.1); (have g5 := p7.cells.2.2.2.2.2.1); (have g6 := p7.cells.2.2.2.2.2.2.1); (have g7 := p7.cells.2.2.2.2.2.2.2.1); (have g8 := p7.cells.2.2.2.2.2.2.2.2.1); (have g9 := p7.cells.2.2.2.2.2.2.2.2.2.1); (have g10 := p7.cells.2.2.2.2.2.2.2.2.2.2.1); (have gf := p7.cells.2.2.2.2.2.2.2.2.2.2.2.2.2.2.2))
  all_goals
    go_wp2
    (try simp only [Exit.inBlock, Exit.then])
    first | refine bodyPost_ret (results_none rfl _ _ _) rfl ?_ | refine bodyPost_end (results_none rfl _ _ _) rfl ?_
    refine ⟨rfl, ?_⟩
    exact p7.flags _ _ _ _ _ _ (by rw [← hs]; simp [useL, CpuN.nz, Hx.out])

end Go.Proofs.YtblchdmemhhcbaaGreat
