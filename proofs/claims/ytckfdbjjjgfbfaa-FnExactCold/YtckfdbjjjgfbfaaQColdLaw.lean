/-
  The exact law of Cold.
-/
import Derived.Test.YtckfdbjjjgfbfaaQCold
import Derived.Test.YtckfdbjjjgfbfaaQRamLaws
import Derived.Test.YtckfdbjjjgfbfaaQCpuB
namespace Go.Proofs.Ytckfdbjjjgfbfaa
set_option linter.unusedVariables false
set_option linter.unusedSimpArgs false
open Go.RowKit

set_option maxRecDepth 100000 in
set_option maxHeartbeats 4000000 in
theorem walkCold (a : Option Addr) (cap : Nat) (L : List Nat) (w : World) (hl : L.length ≤ 1048576) (hr : RowB w a L) :
    Calls Try.prog 4 #[ramV (.slice a L.length cap)] w fun e w' => e = .returned (.bool true) ∧ Below w.heap.size w w' := by
  have HSZ := fun w => szRam_any a L.length cap 1048576 (by unfold maxLen; omega) (by omega) w
  rw [if_neg (by omega)] at HSZ
  obtain ⟨q, hq⟩ : ∃ q, (1048576 : Int) - (L.length : Int) = q := ⟨_, rfl⟩
  rw [hq] at HSZ
  have hq0 : ¬ q < 0 := by omega
  clear hq
  obtain ⟨y, hy⟩ : ∃ y, coldN L = y := ⟨_, rfl⟩
  have HY := Lib.hid hy
  clear hy
  have b0 : Below w.heap.size w w := Below.refl _ _
  have d1 : Below w.heap.size w (w.alloc (.cells #[.slice a L.length cap] 39)) := (Below.refl _ _).alloc (Nat.le_refl _) _
  have p2 : BoxN (w.alloc (.cells #[.slice a L.length cap] 39)) w.heap.size 39 #[.slice a L.length cap] := BoxN.new _ _ _
  have z3 : Hid ((w.alloc (.cells #[.slice a L.length cap] 39)).heap.size = w.heap.size + 1) := Lib.hid (World.size_alloc _ _)
  have b4 := bstep b0 d1
  have z5 := Lib.hid d1.size
  clear b0 d1
  go_enter Try.func4, Try.ntmps4
  have c6 := p2.cell 0 (.slice a L.length cap) rfl
  go_wp2_with fail
  refine (HSZ _).mono ?_
  rintro e w7 ⟨rfl, d8⟩
  have b9 := bstep b4 d8
  have p10 := p2.below d8
  have z11 := Lib.hid d8.size
  clear b4 p2 c6 d8
  have c14 := p10.cell 0 (.slice a L.length cap) rfl
  go_wp2_with fail
  refine (toRam_seg a cap L _ hl (hr.below b9)).mono ?_
  rintro e w15 ⟨g12, rfl, s13, d16⟩
  have b17 := bstep b9 d16
  have p18 := p10.below d16
  have z19 := Lib.hid d16.size
  clear b9 p10 c14 d16
  have c20 := p18.cell 0 (.slice a L.length cap) rfl
  go_wp2_with fail
  refine (specCold_any _ L.length L _ s13.row).mono ?_
  rintro e w21 ⟨rfl, d22⟩
  rw [HY.out]
  have b23 := bstep b17 d22
  have p24 := p18.below d22
  have s25 := s13.below d22
  have z26 := Lib.hid d22.size
  clear b17 p18 s13 c20 d22
  have d27 : Below w21.heap.size w21 (w21.alloc (.cells #[.int .u8 (y.A : Int), .int .u8 (y.X : Int), .int .u8 (y.Y : Int), .int .u8 (y.S : Int), .int .u16 (y.PC : Int), .bool y.N, .bool y.V, .bool y.D, .bool y.I, .bool y.Z, .bool y.C] 28)) := (Below.refl _ _).alloc (Nat.le_refl _) _
  have p28 : BoxN (w21.alloc (.cells #[.int .u8 (y.A : Int), .int .u8 (y.X : Int), .int .u8 (y.Y : Int), .int .u8 (y.S : Int), .int .u16 (y.PC : Int), .bool y.N, .bool y.V, .bool y.D, .bool y.I, .bool y.Z, .bool y.C] 28)) w21.heap.size 28 #[.int .u8 (y.A : Int), .int .u8 (y.X : Int), .int .u8 (y.Y : Int), .int .u8 (y.S : Int), .int .u16 (y.PC : Int), .bool y.N, .bool y.V, .bool y.D, .bool y.I, .bool y.Z, .bool y.C] := BoxN.new _ _ _
  have z29 : Hid ((w21.alloc (.cells #[.int .u8 (y.A : Int), .int .u8 (y.X : Int), .int .u8 (y.Y : Int), .int .u8 (y.S : Int), .int .u16 (y.PC : Int), .bool y.N, .bool y.V, .bool y.D, .bool y.I, .bool y.Z, .bool y.C] 28)).heap.size = w21.heap.size + 1) := Lib.hid (World.size_alloc _ _)
  have b30 := bstep b23 d27
  have p31 := p24.below d27
  have z32 := Lib.hid d27.size
  clear b23 p24 s25 d27
  have c35 := p31.cell 0 (.slice a L.length cap) rfl
  have c36 := p28.cell 0 (.int .u8 (y.A : Int)) rfl
  have c37 := p28.cell 1 (.int .u8 (y.X : Int)) rfl
  have c38 := p28.cell 2 (.int .u8 (y.Y : Int)) rfl
  have c39 := p28.cell 3 (.int .u8 (y.S : Int)) rfl
  have c40 := p28.cell 4 (.int .u16 (y.PC : Int)) rfl
  have c41 := p28.cell 5 (.bool y.N) rfl
  have c42 := p28.cell 6 (.bool y.V) rfl
  have c43 := p28.cell 7 (.bool y.D) rfl
  have c44 := p28.cell 8 (.bool y.I) rfl
  have c45 := p28.cell 9 (.bool y.Z) rfl
  have c46 := p28.cell 10 (.bool y.C) rfl
  go_wp2_with fail
  refine (toRam_seg a cap L _ hl (hr.below b30)).mono ?_
  rintro e w47 ⟨g33, rfl, s34, d48⟩
  have b49 := bstep b30 d48
  have p50 := p31.below d48
  have p51 := p28.below d48
  have z52 := Lib.hid d48.size
  clear b30 p31 p28 c35 c36 c37 c38 c39 c40 c41 c42 c43 c44 c45 c46 d48
  have d53 : Below w47.heap.size w47 (w47.alloc (.cells #[.slice (some ⟨g33, 0, none⟩) L.length L.length] 30)) := (Below.refl _ _).alloc (Nat.le_refl _) _
  have p54 : BoxN (w47.alloc (.cells #[.slice (some ⟨g33, 0, none⟩) L.length L.length] 30)) w47.heap.size 30 #[.slice (some ⟨g33, 0, none⟩) L.length L.length] := BoxN.new _ _ _
  have z55 : Hid ((w47.alloc (.cells #[.slice (some ⟨g33, 0, none⟩) L.length L.length] 30)).heap.size = w47.heap.size + 1) := Lib.hid (World.size_alloc _ _)
  have b56 := bstep b49 d53
  have p57 := p50.below d53
  have p58 := p51.below d53
  have s59 := s34.below d53
  have z60 := Lib.hid d53.size
  clear b49 p50 p51 s34 d53
  have c61 := p57.cell 0 (.slice a L.length cap) rfl
  have c62 := p58.cell 0 (.int .u8 (y.A : Int)) rfl
  have c63 := p58.cell 1 (.int .u8 (y.X : Int)) rfl
  have c64 := p58.cell 2 (.int .u8 (y.Y : Int)) rfl
  have c65 := p58.cell 3 (.int .u8 (y.S : Int)) rfl
  have c66 := p58.cell 4 (.int .u16 (y.PC : Int)) rfl
  have c67 := p58.cell 5 (.bool y.N) rfl
  have c68 := p58.cell 6 (.bool y.V) rfl
  have c69 := p58.cell 7 (.bool y.D) rfl
  have c70 := p58.cell 8 (.bool y.I) rfl
  have c71 := p58.cell 9 (.bool y.Z) rfl
  have c72 := p58.cell 10 (.bool y.C) rfl
  have c73 := p54.cell 0 (.slice (some ⟨g33, 0, none⟩) L.length L.length) rfl
  go_wp2_with fail
  refine (implCold_any _ L.length L _ s59.row).mono ?_
  rintro e w74 ⟨rfl, d75⟩
  rw [HY.out]
  have b76 := bstep b56 d75
  have p77 := p57.below d75
  have p78 := p58.below d75
  have p79 := p54.below d75
  have s80 := s59.below d75
  have z81 := Lib.hid d75.size
  clear b56 p57 p58 p54 s59 c61 c62 c63 c64 c65 c66 c67 c68 c69 c70 c71 c72 c73 d75
  have d82 : Below w74.heap.size w74 (w74.alloc (.cells #[.int .u8 (y.A : Int), .int .u8 (y.X : Int), .int .u8 (y.Y : Int), .int .u8 (y.S : Int), .int .u16 (y.PC : Int), .bool y.N, .bool y.V, .bool y.D, .bool y.I, .bool y.Z, .bool y.C] 28)) := (Below.refl _ _).alloc (Nat.le_refl _) _
  have p83 : BoxN (w74.alloc (.cells #[.int .u8 (y.A : Int), .int .u8 (y.X : Int), .int .u8 (y.Y : Int), .int .u8 (y.S : Int), .int .u16 (y.PC : Int), .bool y.N, .bool y.V, .bool y.D, .bool y.I, .bool y.Z, .bool y.C] 28)) w74.heap.size 28 #[.int .u8 (y.A : Int), .int .u8 (y.X : Int), .int .u8 (y.Y : Int), .int .u8 (y.S : Int), .int .u16 (y.PC : Int), .bool y.N, .bool y.V, .bool y.D, .bool y.I, .bool y.Z, .bool y.C] := BoxN.new _ _ _
  have z84 : Hid ((w74.alloc (.cells #[.int .u8 (y.A : Int), .int .u8 (y.X : Int), .int .u8 (y.Y : Int), .int .u8 (y.S : Int), .int .u16 (y.PC : Int), .bool y.N, .bool y.V, .bool y.D, .bool y.I, .bool y.Z, .bool y.C] 28)).heap.size = w74.heap.size + 1) := Lib.hid (World.size_alloc _ _)
  have b85 := bstep b76 d82
  have p86 := p77.below d82
  have p87 := p78.below d82
  have p88 := p79.below d82
  have s89 := s80.below d82
  have z90 := Lib.hid d82.size
  clear b76 p77 p78 p79 s80 d82
  have c91 := p86.cell 0 (.slice a L.length cap) rfl
  have c92 := p87.cell 0 (.int .u8 (y.A : Int)) rfl
  have c93 := p87.cell 1 (.int .u8 (y.X : Int)) rfl
  have c94 := p87.cell 2 (.int .u8 (y.Y : Int)) rfl
  have c95 := p87.cell 3 (.int .u8 (y.S : Int)) rfl
  have c96 := p87.cell 4 (.int .u16 (y.PC : Int)) rfl
  have c97 := p87.cell 5 (.bool y.N) rfl
  have c98 := p87.cell 6 (.bool y.V) rfl
  have c99 := p87.cell 7 (.bool y.D) rfl
  have c100 := p87.cell 8 (.bool y.I) rfl
  have c101 := p87.cell 9 (.bool y.Z) rfl
  have c102 := p87.cell 10 (.bool y.C) rfl
  have c103 := p88.cell 0 (.slice (some ⟨g33, 0, none⟩) L.length L.length) rfl
  have c104 := p83.cell 0 (.int .u8 (y.A : Int)) rfl
  have c105 := p83.cell 1 (.int .u8 (y.X : Int)) rfl
  have c106 := p83.cell 2 (.int .u8 (y.Y : Int)) rfl
  have c107 := p83.cell 3 (.int .u8 (y.S : Int)) rfl
  have c108 := p83.cell 4 (.int .u16 (y.PC : Int)) rfl
  have c109 := p83.cell 5 (.bool y.N) rfl
  have c110 := p83.cell 6 (.bool y.V) rfl
  have c111 := p83.cell 7 (.bool y.D) rfl
  have c112 := p83.cell 8 (.bool y.I) rfl
  have c113 := p83.cell 9 (.bool y.Z) rfl
  have c114 := p83.cell 10 (.bool y.C) rfl
  go_wp2_with fail
  refine (eqCpu_any y _).mono ?_
  rintro e w115 ⟨rfl, d116⟩
  have b117 := bstep b85 d116
  have p118 := p86.below d116
  have p119 := p87.below d116
  have p120 := p88.below d116
  have p121 := p83.below d116
  have s122 := s89.below d116
  have z123 := Lib.hid d116.size
  clear b85 p86 p87 p88 p83 s89 c91 c92 c93 c94 c95 c96 c97 c98 c99 c100 c101 c102 c103 c104 c105 c106 c107 c108 c109 c110 c111 c112 c113 c114 d116
  have p124 := p118.drew
  have p125 := p120.drew
  have s126 := s122.drew
  have b127 := b117.drew
  have S128 : w115.drew.cell? ⟨w47.heap.size, 0, none⟩ = some (.slice (some ⟨g33, 0, none⟩) L.length L.length) ∧ w115.drew.cell? ⟨w.heap.size, 0, none⟩ = some (.slice a L.length cap) ∧ w47.heap.size < w115.drew.heap.size ∧ w.heap.size < w115.drew.heap.size := ⟨p125.cell 0 (.slice (some ⟨g33, 0, none⟩) L.length L.length) rfl, p124.cell 0 (.slice a L.length cap) rfl, p125.lt, p124.lt⟩
  have r129 := hr.below b127
  clear p119 p121 p118 p120 s122 b117
  go_wp2_with fail
  go_region_held3 (fun w' => w'.cell? ⟨w47.heap.size, 0, none⟩ = some (.slice (some ⟨g33, 0, none⟩) L.length L.length) ∧ w'.cell? ⟨w.heap.size, 0, none⟩ = some (.slice a L.length cap) ∧ w47.heap.size < w'.heap.size ∧ w.heap.size < w'.heap.size)
    (((try dsimp only); (first | (with_reducible exact S128) | (with_reducible exact two_keep d131 S128) | (with_reducible exact two_keep d135 (two_keep d131 S128)))))
    (first | (go_at_call 11; refine (toRam_any a cap L _ hl r129).mono ?_; rintro e w130 ⟨g132, rfl, o133, d131⟩) | (go_at_call 14; refine (eqRam_true _ _ L.length L.length L _ (by omega) (s126.1.below d131).row.2 o133.row.2).mono ?_; rintro e w134 ⟨rfl, d135⟩))
  have z136 : Hid (w115.drew.heap.size = w115.heap.size) := Lib.hid rfl
  have b137 := bstep b127 d131
  have p138 := p124.below d131
  have p139 := p125.below d131
  have s140 := s126.below d131
  have z141 := Lib.hid d131.size
  clear b127 p124 p125 s126 S128 r129 o133 d131
  have b142 := bstep b137 d135
  have p143 := p138.below d135
  have p144 := p139.below d135
  have s145 := s140.below d135
  have z146 := Lib.hid d135.size
  clear b137 p138 p139 s140 d135
  go_wp2
  go_ret
  exact ⟨rfl, b142⟩

end Go.Proofs.Ytckfdbjjjgfbfaa
