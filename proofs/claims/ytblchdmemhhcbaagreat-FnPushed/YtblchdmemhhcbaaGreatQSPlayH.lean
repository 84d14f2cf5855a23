/-
  Contracts over the program: what a player moves, turns, asks and stores by an operation's name.
-/
import Derived.Test.YtblchdmemhhcbaaGreatQSPlayB
import Derived.Test.YtblchdmemhhcbaaGreatQSStepA
namespace Go.Proofs.YtblchdmemhhcbaaGreat
set_option linter.unusedVariables false
set_option linter.unusedSimpArgs false
open Go.RowKit

set_option maxRecDepth 100000 in
theorem Play.moved_INX {F : Nat → Prop} {w W : World} {P : Nat} {o : Option Nat} {k : OpK} {s : St} {N : Nat} (p : Play F w W P o k s N) (hk : k.nm = ⟨#[73, 78, 88]⟩) :
    Calls Tryz.prog 138 #[.pointer (some ⟨P, 0, none⟩)] W fun e w' => e = .returned (.int .u8 (((s.c.X + 1) % 256 : Nat) : Int)) ∧ W = w' := by
  obtain ⟨hA, hX, hY, hS, hP⟩ := p.pl.ok
  obtain ⟨g0, g1, g2, g3, g4, g5, g6, g7, g8, g9, g10, g11, g12, g13, g15, gf⟩ := p.cells
  rw [hk] at g12
  go_enter Tryz.func138, Tryz.ntmps138
  go_wp2
  go_ret
  refine ⟨?_, rfl⟩
  first | rfl | exact congrArg (fun v => Ending.returned (Value.int .u8 v)) (by first | rfl | omega | (simp [IntKind.wrap, IntKind.bits, IntKind.signed]; omega))

set_option maxRecDepth 100000 in
theorem Play.moved_DEX {F : Nat → Prop} {w W : World} {P : Nat} {o : Option Nat} {k : OpK} {s : St} {N : Nat} (p : Play F w W P o k s N) (hk : k.nm = ⟨#[68, 69, 88]⟩) :
    Calls Tryz.prog 138 #[.pointer (some ⟨P, 0, none⟩)] W fun e w' => e = .returned (.int .u8 (((s.c.X + 255) % 256 : Nat) : Int)) ∧ W = w' := by
  obtain ⟨hA, hX, hY, hS, hP⟩ := p.pl.ok
  obtain ⟨g0, g1, g2, g3, g4, g5, g6, g7, g8, g9, g10, g11, g12, g13, g15, gf⟩ := p.cells
  rw [hk] at g12
  go_enter Tryz.func138, Tryz.ntmps138
  go_wp2
  go_ret
  refine ⟨?_, rfl⟩
  first | rfl | exact congrArg (fun v => Ending.returned (Value.int .u8 v)) (by first | rfl | omega | (simp [IntKind.wrap, IntKind.bits, IntKind.signed]; omega))

set_option maxRecDepth 100000 in
theorem Play.moved_INY {F : Nat → Prop} {w W : World} {P : Nat} {o : Option Nat} {k : OpK} {s : St} {N : Nat} (p : Play F w W P o k s N) (hk : k.nm = ⟨#[73, 78, 89]⟩) :
    Calls Tryz.prog 138 #[.pointer (some ⟨P, 0, none⟩)] W fun e w' => e = .returned (.int .u8 (((s.c.Y + 1) % 256 : Nat) : Int)) ∧ W = w' := by
  obtain ⟨hA, hX, hY, hS, hP⟩ := p.pl.ok
  obtain ⟨g0, g1, g2, g3, g4, g5, g6, g7, g8, g9, g10, g11, g12, g13, g15, gf⟩ := p.cells
  rw [hk] at g12
  go_enter Tryz.func138, Tryz.ntmps138
  go_wp2
  go_ret
  refine ⟨?_, rfl⟩
  first | rfl | exact congrArg (fun v => Ending.returned (Value.int .u8 v)) (by first | rfl | omega | (simp [IntKind.wrap, IntKind.bits, IntKind.signed]; omega))

set_option maxRecDepth 100000 in
theorem Play.moved_DEY {F : Nat → Prop} {w W : World} {P : Nat} {o : Option Nat} {k : OpK} {s : St} {N : Nat} (p : Play F w W P o k s N) (hk : k.nm = ⟨#[68, 69, 89]⟩) :
    Calls Tryz.prog 138 #[.pointer (some ⟨P, 0, none⟩)] W fun e w' => e = .returned (.int .u8 (((s.c.Y + 255) % 256 : Nat) : Int)) ∧ W = w' := by
  obtain ⟨hA, hX, hY, hS, hP⟩ := p.pl.ok
  obtain ⟨g0, g1, g2, g3, g4, g5, g6, g7, g8, g9, g10, g11, g12, g13, g15, gf⟩ := p.cells
  rw [hk] at g12
  go_enter Tryz.func138, Tryz.ntmps138
  go_wp2
  go_ret
  refine ⟨?_, rfl⟩
  first | rfl | exact congrArg (fun v => Ending.returned (Value.int .u8 v)) (by first | rfl | omega | (simp [IntKind.wrap, IntKind.bits, IntKind.signed]; omega))

set_option maxRecDepth 100000 in
theorem Play.moved_TAX {F : Nat → Prop} {w W : World} {P : Nat} {o : Option Nat} {k : OpK} {s : St} {N : Nat} (p : Play F w W P o k s N) (hk : k.nm = ⟨#[84, 65, 88]⟩) :
    Calls Tryz.prog 138 #[.pointer (some ⟨P, 0, none⟩)] W fun e w' => e = .returned (.int .u8 ((s.c.A : Nat) : Int)) ∧ W = w' := by
  obtain ⟨hA, hX, hY, hS, hP⟩ := p.pl.ok
  obtain ⟨g0, g1, g2, g3, g4, g5, g6, g7, g8, g9, g10, g11, g12, g13, g15, gf⟩ := p.cells
  rw [hk] at g12
  go_enter Tryz.func138, Tryz.ntmps138
  go_wp2
  go_ret
  refine ⟨?_, rfl⟩
  first | rfl | exact congrArg (fun v => Ending.returned (Value.int .u8 v)) (by first | rfl | omega | (simp [IntKind.wrap, IntKind.bits, IntKind.signed]; omega))

set_option maxRecDepth 100000 in
theorem Play.moved_TAY {F : Nat → Prop} {w W : World} {P : Nat} {o : Option Nat} {k : OpK} {s : St} {N : Nat} (p : Play F w W P o k s N) (hk : k.nm = ⟨#[84, 65, 89]⟩) :
    Calls Tryz.prog 138 #[.pointer (some ⟨P, 0, none⟩)] W fun e w' => e = .returned (.int .u8 ((s.c.A : Nat) : Int)) ∧ W = w' := by
  obtain ⟨hA, hX, hY, hS, hP⟩ := p.pl.ok
  obtain ⟨g0, g1, g2, g3, g4, g5, g6, g7, g8, g9, g10, g11, g12, g13, g15, gf⟩ := p.cells
  rw [hk] at g12
  go_enter Tryz.func138, Tryz.ntmps138
  go_wp2
  go_ret
  refine ⟨?_, rfl⟩
  first | rfl | exact congrArg (fun v => Ending.returned (Value.int .u8 v)) (by first | rfl | omega | (simp [IntKind.wrap, IntKind.bits, IntKind.signed]; omega))

set_option maxRecDepth 100000 in
theorem Play.moved_TYA {F : Nat → Prop} {w W : World} {P : Nat} {o : Option Nat} {k : OpK} {s : St} {N : Nat} (p : Play F w W P o k s N) (hk : k.nm = ⟨#[84, 89, 65]⟩) :
    Calls Tryz.prog 138 #[.pointer (some ⟨P, 0, none⟩)] W fun e w' => e = .returned (.int .u8 ((s.c.Y : Nat) : Int)) ∧ W = w' := by
  obtain ⟨hA, hX, hY, hS, hP⟩ := p.pl.ok
  obtain ⟨g0, g1, g2, g3, g4, g5, g6, g7, g8, g9, g10, g11, g12, g13, g15, gf⟩ := p.cells
  rw [hk] at g12
  go_enter Tryz.func138, Tryz.ntmps138
  go_wp2
  go_ret
  refine ⟨?_, rfl⟩
  first | rfl | exact congrArg (fun v => Ending.returned (Value.int .u8 v)) (by first | rfl | omega | (simp [IntKind.wrap, IntKind.bits, IntKind.signed]; omega))

set_option maxRecDepth 100000 in
theorem Play.moved_TSX {F : Nat → Prop} {w W : World} {P : Nat} {o : Option Nat} {k : OpK} {s : St} {N : Nat} (p : Play F w W P o k s N) (hk : k.nm = ⟨#[84, 83, 88]⟩) :
    Calls Tryz.prog 138 #[.pointer (some ⟨P, 0, none⟩)] W fun e w' => e = .returned (.int .u8 ((s.c.S : Nat) : Int)) ∧ W = w' := by
  obtain ⟨hA, hX, hY, hS, hP⟩ := p.pl.ok
  obtain ⟨g0, g1, g2, g3, g4, g5, g6, g7, g8, g9, g10, g11, g12, g13, g15, gf⟩ := p.cells
  rw [hk] at g12
  go_enter Tryz.func138, Tryz.ntmps138
  go_wp2
  go_ret
  refine ⟨?_, rfl⟩
  first | rfl | exact congrArg (fun v => Ending.returned (Value.int .u8 v)) (by first | rfl | omega | (simp [IntKind.wrap, IntKind.bits, IntKind.signed]; omega))

set_option maxRecDepth 100000 in
theorem Play.moved_TXA {F : Nat → Prop} {w W : World} {P : Nat} {o : Option Nat} {k : OpK} {s : St} {N : Nat} (p : Play F w W P o k s N) (hk : k.nm = ⟨#[84, 88, 65]⟩) :
    Calls Tryz.prog 138 #[.pointer (some ⟨P, 0, none⟩)] W fun e w' => e = .returned (.int .u8 ((s.c.X : Nat) : Int)) ∧ W = w' := by
  obtain ⟨hA, hX, hY, hS, hP⟩ := p.pl.ok
  obtain ⟨g0, g1, g2, g3, g4, g5, g6, g7, g8, g9, g10, g11, g12, g13, g15, gf⟩ := p.cells
  rw [hk] at g12
  go_enter Tryz.func138, Tryz.ntmps138
  go_wp2
  go_ret
  refine ⟨?_, rfl⟩
  first | rfl | exact congrArg (fun v => Ending.returned (Value.int .u8 v)) (by first | rfl | omega | (simp [IntKind.wrap, IntKind.bits, IntKind.signed]; omega))

set_option maxRecDepth 100000 in
theorem Play.moved_TXS {F : Nat → Prop} {w W : World} {P : Nat} {o : Option Nat} {k : OpK} {s : St} {N : Nat} (p : Play F w W P o k s N) (hk : k.nm = ⟨#[84, 88, 83]⟩) :
    Calls Tryz.prog 138 #[.pointer (some ⟨P, 0, none⟩)] W fun e w' => e = .returned (.int .u8 ((s.c.X : Nat) : Int)) ∧ W = w' := by
  obtain ⟨hA, hX, hY, hS, hP⟩ := p.pl.ok
  obtain ⟨g0, g1, g2, g3, g4, g5, g6, g7, g8, g9, g10, g11, g12, g13, g15, gf⟩ := p.cells
  rw [hk] at g12
  go_enter Tryz.func138, Tryz.ntmps138
  go_wp2
  go_ret
  refine ⟨?_, rfl⟩
  first | rfl | exact congrArg (fun v => Ending.returned (Value.int .u8 v)) (by first | rfl | omega | (simp [IntKind.wrap, IntKind.bits, IntKind.signed]; omega))

set_option maxRecDepth 100000 in
theorem Play.stored_STA {F : Nat → Prop} {w W : World} {P : Nat} {o : Option Nat} {k : OpK} {s : St} {N : Nat} (p : Play F w W P o k s N) (hk : k.nm = ⟨#[83, 84, 65]⟩) :
    Calls Tryz.prog 143 #[.pointer (some ⟨P, 0, none⟩)] W fun e w' => e = .returned (.int .u8 ((s.c.A : Nat) : Int)) ∧ W = w' := by
  obtain ⟨hA, hX, hY, hS, hP⟩ := p.pl.ok
  obtain ⟨g0, g1, g2, g3, g4, g5, g6, g7, g8, g9, g10, g11, g12, g13, g15, gf⟩ := p.cells
  rw [hk] at g12
  go_enter Tryz.func143, Tryz.ntmps143
  go_wp2
  go_ret
  refine ⟨?_, rfl⟩
  first | rfl | exact congrArg (fun v => Ending.returned (Value.int .u8 v)) (by first | rfl | omega | (simp [IntKind.wrap, IntKind.bits, IntKind.signed]; omega))

set_option maxRecDepth 100000 in
theorem Play.stored_STX {F : Nat → Prop} {w W : World} {P : Nat} {o : Option Nat} {k : OpK} {s : St} {N : Nat} (p : Play F w W P o k s N) (hk : k.nm = ⟨#[83, 84, 88]⟩) :
    Calls Tryz.prog 143 #[.pointer (some ⟨P, 0, none⟩)] W fun e w' => e = .returned (.int .u8 ((s.c.X : Nat) : Int)) ∧ W = w' := by
  obtain ⟨hA, hX, hY, hS, hP⟩ := p.pl.ok
  obtain ⟨g0, g1, g2, g3, g4, g5, g6, g7, g8, g9, g10, g11, g12, g13, g15, gf⟩ := p.cells
  rw [hk] at g12
  go_enter Tryz.func143, Tryz.ntmps143
  go_wp2
  go_ret
  refine ⟨?_, rfl⟩
  first | rfl | exact congrArg (fun v => Ending.returned (Value.int .u8 v)) (by first | rfl | omega | (simp [IntKind.wrap, IntKind.bits, IntKind.signed]; omega))

set_option maxRecDepth 100000 in
theorem Play.stored_STY {F : Nat → Prop} {w W : World} {P : Nat} {o : Option Nat} {k : OpK} {s : St} {N : Nat} (p : Play F w W P o k s N) (hk : k.nm = ⟨#[83, 84, 89]⟩) :
    Calls Tryz.prog 143 #[.pointer (some ⟨P, 0, none⟩)] W fun e w' => e = .returned (.int .u8 ((s.c.Y : Nat) : Int)) ∧ W = w' := by
  obtain ⟨hA, hX, hY, hS, hP⟩ := p.pl.ok
  obtain ⟨g0, g1, g2, g3, g4, g5, g6, g7, g8, g9, g10, g11, g12, g13, g15, gf⟩ := p.cells
  rw [hk] at g12
  go_enter Tryz.func143, Tryz.ntmps143
  go_wp2
  go_ret
  refine ⟨?_, rfl⟩
  first | rfl | exact congrArg (fun v => Ending.returned (Value.int .u8 v)) (by first | rfl | omega | (simp [IntKind.wrap, IntKind.bits, IntKind.signed]; omega))

set_option maxRecDepth 100000 in
theorem Play.branches_BPL {F : Nat → Prop} {w W : World} {P : Nat} {o : Option Nat} {k : OpK} {s : St} {N : Nat} (p : Play F w W P o k s N) (hk : k.nm = ⟨#[66, 80, 76]⟩) :
    Calls Tryz.prog 144 #[.pointer (some ⟨P, 0, none⟩)] W fun e w' => e = .returned (.bool (!s.c.N)) ∧ W = w' := by
  obtain ⟨hA, hX, hY, hS, hP⟩ := p.pl.ok
  obtain ⟨g0, g1, g2, g3, g4, g5, g6, g7, g8, g9, g10, g11, g12, g13, g15, gf⟩ := p.cells
  rw [hk] at g12
  go_enter Tryz.func144, Tryz.ntmps144
  go_wp2
  go_ret
  refine ⟨?_, rfl⟩
  first | rfl | simp

set_option maxRecDepth 100000 in
theorem Play.branches_BMI {F : Nat → Prop} {w W : World} {P : Nat} {o : Option Nat} {k : OpK} {s : St} {N : Nat} (p : Play F w W P o k s N) (hk : k.nm = ⟨#[66, 77, 73]⟩) :
    Calls Tryz.prog 144 #[.pointer (some ⟨P, 0, none⟩)] W fun e w' => e = .returned (.bool (s.c.N)) ∧ W = w' := by
  obtain ⟨hA, hX, hY, hS, hP⟩ := p.pl.ok
  obtain ⟨g0, g1, g2, g3, g4, g5, g6, g7, g8, g9, g10, g11, g12, g13, g15, gf⟩ := p.cells
  rw [hk] at g12
  go_enter Tryz.func144, Tryz.ntmps144
  go_wp2
  go_ret
  refine ⟨?_, rfl⟩
  first | rfl | simp

set_option maxRecDepth 100000 in
theorem Play.branches_BVC {F : Nat → Prop} {w W : World} {P : Nat} {o : Option Nat} {k : OpK} {s : St} {N : Nat} (p : Play F w W P o k s N) (hk : k.nm = ⟨#[66, 86, 67]⟩) :
    Calls Tryz.prog 144 #[.pointer (some ⟨P, 0, none⟩)] W fun e w' => e = .returned (.bool (!s.c.V)) ∧ W = w' := by
  obtain ⟨hA, hX, hY, hS, hP⟩ := p.pl.ok
  obtain ⟨g0, g1, g2, g3, g4, g5, g6, g7, g8, g9, g10, g11, g12, g13, g15, gf⟩ := p.cells
  rw [hk] at g12
  go_enter Tryz.func144, Tryz.ntmps144
  go_wp2
  go_ret
  refine ⟨?_, rfl⟩
  first | rfl | simp

set_option maxRecDepth 100000 in
theorem Play.branches_BVS {F : Nat → Prop} {w W : World} {P : Nat} {o : Option Nat} {k : OpK} {s : St} {N : Nat} (p : Play F w W P o k s N) (hk : k.nm = ⟨#[66, 86, 83]⟩) :
    Calls Tryz.prog 144 #[.pointer (some ⟨P, 0, none⟩)] W fun e w' => e = .returned (.bool (s.c.V)) ∧ W = w' := by
  obtain ⟨hA, hX, hY, hS, hP⟩ := p.pl.ok
  obtain ⟨g0, g1, g2, g3, g4, g5, g6, g7, g8, g9, g10, g11, g12, g13, g15, gf⟩ := p.cells
  rw [hk] at g12
  go_enter Tryz.func144, Tryz.ntmps144
  go_wp2
  go_ret
  refine ⟨?_, rfl⟩
  first | rfl | simp

set_option maxRecDepth 100000 in
theorem Play.branches_BCC {F : Nat → Prop} {w W : World} {P : Nat} {o : Option Nat} {k : OpK} {s : St} {N : Nat} (p : Play F w W P o k s N) (hk : k.nm = ⟨#[66, 67, 67]⟩) :
    Calls Tryz.prog 144 #[.pointer (some ⟨P, 0, none⟩)] W fun e w' => e = .returned (.bool (!s.c.C)) ∧ W = w' := by
  obtain ⟨hA, hX, hY, hS, hP⟩ := p.pl.ok
  obtain ⟨g0, g1, g2, g3, g4, g5, g6, g7, g8, g9, g10, g11, g12, g13, g15, gf⟩ := p.cells
  rw [hk] at g12
  go_enter Tryz.func144, Tryz.ntmps144
  go_wp2
  go_ret
  refine ⟨?_, rfl⟩
  first | rfl | simp

set_option maxRecDepth 100000 in
theorem Play.branches_BCS {F : Nat → Prop} {w W : World} {P : Nat} {o : Option Nat} {k : OpK} {s : St} {N : Nat} (p : Play F w W P o k s N) (hk : k.nm = ⟨#[66, 67, 83]⟩) :
    Calls Tryz.prog 144 #[.pointer (some ⟨P, 0, none⟩)] W fun e w' => e = .returned (.bool (s.c.C)) ∧ W = w' := by
  obtain ⟨hA, hX, hY, hS, hP⟩ := p.pl.ok
  obtain ⟨g0, g1, g2, g3, g4, g5, g6, g7, g8, g9, g10, g11, g12, g13, g15, gf⟩ := p.cells
  rw [hk] at g12
  go_enter Tryz.func144, Tryz.ntmps144
  go_wp2
  go_ret
  refine ⟨?_, rfl⟩
  first | rfl | simp

set_option maxRecDepth 100000 in
theorem Play.branches_BNE {F : Nat → Prop} {w W : World} {P : Nat} {o : Option Nat} {k : OpK} {s : St} {N : Nat} (p : Play F w W P o k s N) (hk : k.nm = ⟨#[66, 78, 69]⟩) :
    Calls Tryz.prog 144 #[.pointer (some ⟨P, 0, none⟩)] W fun e w' => e = .returned (.bool (!s.c.Z)) ∧ W = w' := by
  obtain ⟨hA, hX, hY, hS, hP⟩ := p.pl.ok
  obtain ⟨g0, g1, g2, g3, g4, g5, g6, g7, g8, g9, g10, g11, g12, g13, g15, gf⟩ := p.cells
  rw [hk] at g12
  go_enter Tryz.func144, Tryz.ntmps144
  go_wp2
  go_ret
  refine ⟨?_, rfl⟩
  first | rfl | simp

set_option maxRecDepth 100000 in
theorem Play.branches_BEQ {F : Nat → Prop} {w W : World} {P : Nat} {o : Option Nat} {k : OpK} {s : St} {N : Nat} (p : Play F w W P o k s N) (hk : k.nm = ⟨#[66, 69, 81]⟩) :
    Calls Tryz.prog 144 #[.pointer (some ⟨P, 0, none⟩)] W fun e w' => e = .returned (.bool (s.c.Z)) ∧ W = w' := by
  obtain ⟨hA, hX, hY, hS, hP⟩ := p.pl.ok
  obtain ⟨g0, g1, g2, g3, g4, g5, g6, g7, g8, g9, g10, g11, g12, g13, g15, gf⟩ := p.cells
  rw [hk] at g12
  go_enter Tryz.func144, Tryz.ntmps144
  go_wp2
  go_ret
  refine ⟨?_, rfl⟩
  first | rfl | simp

set_option maxRecDepth 100000 in
theorem Play.turnFlag_CLC {F : Nat → Prop} {w W : World} {P : Nat} {o : Option Nat} {k : OpK} {s : St} {N : Nat} (p : Play F w W P o k s N) (hk : k.nm = ⟨#[67, 76, 67]⟩)  (hN : N ≤ 90) {s' : St} (hs : ⟨flagL s.c [67, 76, 67], s.b⟩ = s') :
    Calls Tryz.prog 140 #[.pointer (some ⟨P, 0, none⟩)] W fun e w' => e = .returned (.tuple #[]) ∧ Play F w w' P o k s' (N + 0) := by
  obtain ⟨hA, hX, hY, hS, hP⟩ := p.pl.ok
  go_enter Tryz.func140, Tryz.ntmps140
  obtain ⟨g0, g1, g2, g3, g4, g5, g6, g7, g8, g9, g10, g11, g12, g13, g15, gf⟩ := p.cells
  rw [hk] at g12
  go_wp2
  (try simp only [Exit.inBlock, Exit.then])
  first | refine bodyPost_ret (results_none rfl _ _ _) rfl ?_ | refine bodyPost_end (results_none rfl _ _ _) rfl ?_
  refine ⟨rfl, ?_⟩
  exact (by rw [← hs]; exact p.flag 10 false { s.c with C := false } rfl rfl rfl rfl rfl rfl)

set_option maxRecDepth 100000 in
theorem Play.turnFlag_SEC {F : Nat → Prop} {w W : World} {P : Nat} {o : Option Nat} {k : OpK} {s : St} {N : Nat} (p : Play F w W P o k s N) (hk : k.nm = ⟨#[83, 69, 67]⟩)  (hN : N ≤ 90) {s' : St} (hs : ⟨flagL s.c [83, 69, 67], s.b⟩ = s') :
    Calls Tryz.prog 140 #[.pointer (some ⟨P, 0, none⟩)] W fun e w' => e = .returned (.tuple #[]) ∧ Play F w w' P o k s' (N + 0) := by
  obtain ⟨hA, hX, hY, hS, hP⟩ := p.pl.ok
  go_enter Tryz.func140, Tryz.ntmps140
  obtain ⟨g0, g1, g2, g3, g4, g5, g6, g7, g8, g9, g10, g11, g12, g13, g15, gf⟩ := p.cells
  rw [hk] at g12
  go_wp2
  (try simp only [Exit.inBlock, Exit.then])
  first | refine bodyPost_ret (results_none rfl _ _ _) rfl ?_ | refine bodyPost_end (results_none rfl _ _ _) rfl ?_
  refine ⟨rfl, ?_⟩
  exact (by rw [← hs]; exact p.flag 10 true { s.c with C := true } rfl rfl rfl rfl rfl rfl)

set_option maxRecDepth 100000 in
theorem Play.turnFlag_CLI {F : Nat → Prop} {w W : World} {P : Nat} {o : Option Nat} {k : OpK} {s : St} {N : Nat} (p : Play F w W P o k s N) (hk : k.nm = ⟨#[67, 76, 73]⟩)  (hN : N ≤ 90) {s' : St} (hs : ⟨flagL s.c [67, 76, 73], s.b⟩ = s') :
    Calls Tryz.prog 140 #[.pointer (some ⟨P, 0, none⟩)] W fun e w' => e = .returned (.tuple #[]) ∧ Play F w w' P o k s' (N + 0) := by
  obtain ⟨hA, hX, hY, hS, hP⟩ := p.pl.ok
  go_enter Tryz.func140, Tryz.ntmps140
  obtain ⟨g0, g1, g2, g3, g4, g5, g6, g7, g8, g9, g10, g11, g12, g13, g15, gf⟩ := p.cells
  rw [hk] at g12
  go_wp2
  (try simp only [Exit.inBlock, Exit.then])
  first | refine bodyPost_ret (results_none rfl _ _ _) rfl ?_ | refine bodyPost_end (results_none rfl _ _ _) rfl ?_
  refine ⟨rfl, ?_⟩
  exact (by rw [← hs]; exact p.flag 8 false { s.c with I := false } rfl rfl rfl rfl rfl rfl)

set_option maxRecDepth 100000 in
theorem Play.turnFlag_SEI {F : Nat → Prop} {w W : World} {P : Nat} {o : Option Nat} {k : OpK} {s : St} {N : Nat} (p : Play F w W P o k s N) (hk : k.nm = ⟨#[83, 69, 73]⟩)  (hN : N ≤ 90) {s' : St} (hs : ⟨flagL s.c [83, 69, 73], s.b⟩ = s') :
    Calls Tryz.prog 140 #[.pointer (some ⟨P, 0, none⟩)] W fun e w' => e = .returned (.tuple #[]) ∧ Play F w w' P o k s' (N + 0) := by
  obtain ⟨hA, hX, hY, hS, hP⟩ := p.pl.ok
  go_enter Tryz.func140, Tryz.ntmps140
  obtain ⟨g0, g1, g2, g3, g4, g5, g6, g7, g8, g9, g10, g11, g12, g13, g15, gf⟩ := p.cells
  rw [hk] at g12
  go_wp2
  (try simp only [Exit.inBlock, Exit.then])
  first | refine bodyPost_ret (results_none rfl _ _ _) rfl ?_ | refine bodyPost_end (results_none rfl _ _ _) rfl ?_
  refine ⟨rfl, ?_⟩
  exact (by rw [← hs]; exact p.flag 8 true { s.c with I := true } rfl rfl rfl rfl rfl rfl)

set_option maxRecDepth 100000 in
theorem Play.turnFlag_CLV {F : Nat → Prop} {w W : World} {P : Nat} {o : Option Nat} {k : OpK} {s : St} {N : Nat} (p : Play F w W P o k s N) (hk : k.nm = ⟨#[67, 76, 86]⟩)  (hN : N ≤ 90) {s' : St} (hs : ⟨flagL s.c [67, 76, 86], s.b⟩ = s') :
    Calls Tryz.prog 140 #[.pointer (some ⟨P, 0, none⟩)] W fun e w' => e = .returned (.tuple #[]) ∧ Play F w w' P o k s' (N + 0) := by
  obtain ⟨hA, hX, hY, hS, hP⟩ := p.pl.ok
  go_enter Tryz.func140, Tryz.ntmps140
  obtain ⟨g0, g1, g2, g3, g4, g5, g6, g7, g8, g9, g10, g11, g12, g13, g15, gf⟩ := p.cells
  rw [hk] at g12
  go_wp2
  (try simp only [Exit.inBlock, Exit.then])
  first | refine bodyPost_ret (results_none rfl _ _ _) rfl ?_ | refine bodyPost_end (results_none rfl _ _ _) rfl ?_
  refine ⟨rfl, ?_⟩
  exact (by rw [← hs]; exact p.flag 6 false { s.c with V := false } rfl rfl rfl rfl rfl rfl)

set_option maxRecDepth 100000 in
theorem Play.turnFlag_CLD {F : Nat → Prop} {w W : World} {P : Nat} {o : Option Nat} {k : OpK} {s : St} {N : Nat} (p : Play F w W P o k s N) (hk : k.nm = ⟨#[67, 76, 68]⟩)  (hN : N ≤ 90) {s' : St} (hs : ⟨flagL s.c [67, 76, 68], s.b⟩ = s') :
    Calls Tryz.prog 140 #[.pointer (some ⟨P, 0, none⟩)] W fun e w' => e = .returned (.tuple #[]) ∧ Play F w w' P o k s' (N + 0) := by
  obtain ⟨hA, hX, hY, hS, hP⟩ := p.pl.ok
  go_enter Tryz.func140, Tryz.ntmps140
  obtain ⟨g0, g1, g2, g3, g4, g5, g6, g7, g8, g9, g10, g11, g12, g13, g15, gf⟩ := p.cells
  rw [hk] at g12
  go_wp2
  (try simp only [Exit.inBlock, Exit.then])
  first | refine bodyPost_ret (results_none rfl _ _ _) rfl ?_ | refine bodyPost_end (results_none rfl _ _ _) rfl ?_
  refine ⟨rfl, ?_⟩
  exact (by rw [← hs]; exact p.flag 7 false { s.c with D := false } rfl rfl rfl rfl rfl rfl)

set_option maxRecDepth 100000 in
theorem Play.turnFlag_SED {F : Nat → Prop} {w W : World} {P : Nat} {o : Option Nat} {k : OpK} {s : St} {N : Nat} (p : Play F w W P o k s N) (hk : k.nm = ⟨#[83, 69, 68]⟩)  (hN : N ≤ 90) {s' : St} (hs : ⟨flagL s.c [83, 69, 68], s.b⟩ = s') :
    Calls Tryz.prog 140 #[.pointer (some ⟨P, 0, none⟩)] W fun e w' => e = .returned (.tuple #[]) ∧ Play F w w' P o k s' (N + 0) := by
  obtain ⟨hA, hX, hY, hS, hP⟩ := p.pl.ok
  go_enter Tryz.func140, Tryz.ntmps140
  obtain ⟨g0, g1, g2, g3, g4, g5, g6, g7, g8, g9, g10, g11, g12, g13, g15, gf⟩ := p.cells
  rw [hk] at g12
  go_wp2
  (try simp only [Exit.inBlock, Exit.then])
  first | refine bodyPost_ret (results_none rfl _ _ _) rfl ?_ | refine bodyPost_end (results_none rfl _ _ _) rfl ?_
  refine ⟨rfl, ?_⟩
  exact (by rw [← hs]; exact p.flag 7 true { s.c with D := true } rfl rfl rfl rfl rfl rfl)

set_option maxRecDepth 100000 in
theorem Play.turnFlag_NOP {F : Nat → Prop} {w W : World} {P : Nat} {o : Option Nat} {k : OpK} {s : St} {N : Nat} (p : Play F w W P o k s N) (hk : k.nm = ⟨#[78, 79, 80]⟩)  (hN : N ≤ 90) {s' : St} (hs : ⟨flagL s.c [78, 79, 80], s.b⟩ = s') :
    Calls Tryz.prog 140 #[.pointer (some ⟨P, 0, none⟩)] W fun e w' => e = .returned (.tuple #[]) ∧ Play F w w' P o k s' (N + 0) := by
  obtain ⟨hA, hX, hY, hS, hP⟩ := p.pl.ok
  go_enter Tryz.func140, Tryz.ntmps140
  obtain ⟨g0, g1, g2, g3, g4, g5, g6, g7, g8, g9, g10, g11, g12, g13, g15, gf⟩ := p.cells
  rw [hk] at g12
  go_wp2
  (try simp only [Exit.inBlock, Exit.then])
  first | refine bodyPost_ret (results_none rfl _ _ _) rfl ?_ | refine bodyPost_end (results_none rfl _ _ _) rfl ?_
  refine ⟨rfl, ?_⟩
  exact (by rw [← hs]; exact p)

end Go.Proofs.YtblchdmemhhcbaaGreat
