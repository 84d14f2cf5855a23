/-
  The exact law of Jams, walked over any program whose function keeps its contract; the contracts of Step and Serve.
-/
import Derived.Test.YtblchdmemhhcbaaRamLaws
import Derived.Test.YtblchdmemhhcbaaStepS
namespace Go.Proofs.Ytblchdmemhhcbaa
set_option linter.unusedVariables false
set_option linter.unusedSimpArgs false
open Go.RowKit

def ImplJams : Prop := ∀ (a : Option Addr) (c pc : Nat) (L : List Nat) (w : World), pc < 65536 → L.length ≤ 1048576 → L.length ≤ c → RowB w a L → Calls Try.prog 18 #[ramV (.slice a L.length c), .int .u16 pc] w fun e w' => e = .returned (.bool (jamsN L pc)) ∧ Below w.heap.size w w'

def ImplServe : Prop := ∀ (c : CpuN) (a : Option Addr) (cap : Nat) (L : List Nat) (nmi : Bool) (w : World), c.ok → L.length ≤ 1048576 → L.length ≤ cap → RowB w a L → Calls Try.prog 9 #[cpuV c, ramV (.slice a L.length cap), .bool nmi] w (Stepped w (servedN c L nmi))

set_option maxRecDepth 100000 in
set_option maxHeartbeats 2000000 in
theorem walkJams (HI : ImplJams) (a : Option Addr) (cap pc : Nat) (L : List Nat) (w : World) (ha : pc < 65536) (hl : L.length ≤ 1048576) (hr : RowB w a L) :
    Calls Try.prog 4 #[ramV (.slice a L.length cap), .int .u16 pc] w fun e w' => e = .returned (.bool true) ∧ Below w.heap.size w w' := by
  have HSZ := fun w => szRam_any a L.length cap 1048576 (by unfold maxLen; omega) (by omega) w
  rw [if_neg (by omega)] at HSZ
  obtain ⟨q, hq⟩ : ∃ q, (1048576 : Int) - (L.length : Int) = q := ⟨_, rfl⟩
  rw [hq] at HSZ
  have hq0 : ¬ q < 0 := by omega
  clear hq
  obtain ⟨y, hy⟩ : ∃ y, jamsN L pc = y := ⟨_, rfl⟩
  have HY := Lib.hid hy
  clear hy
  have b0 : Below w.heap.size w w := Below.refl _ _
  have d1 : Below w.heap.size w (w.alloc (.cells #[.slice a L.length cap] 29)) := (Below.refl _ _).alloc (Nat.le_refl _) _
  have p2 : BoxN (w.alloc (.cells #[.slice a L.length cap] 29)) w.heap.size 29 #[.slice a L.length cap] := BoxN.new _ _ _
  have z3 : Hid ((w.alloc (.cells #[.slice a L.length cap] 29)).heap.size = w.heap.size + 1) := Lib.hid (World.size_alloc _ _)
  have b4 := bstep b0 d1
  have z5 := Lib.hid d1.size
  clear b0 d1
  go_enter Try.func4, Try.ntmps4
  have c6 := p2.cell 0 (.slice a L.length cap) rfl
  go_wp2_with fail
  refine (HSZ _).mono ?_
  rintro e w7 ⟨rfl, d8⟩
  have b9 := bstep b4 d8
  have p10 := p2.below d8
  have z11 := Lib.hid d8.size
  clear b4 p2 c6 d8
  have c14 := p10.cell 0 (.slice a L.length cap) rfl
  go_wp2_with fail
  refine (toRam_seg a cap L _ hl (hr.below b9)).mono ?_
  rintro e w15 ⟨g12, rfl, s13, d16⟩
  have b17 := bstep b9 d16
  have p18 := p10.below d16
  have z19 := Lib.hid d16.size
  clear b9 p10 c14 d16
  have c20 := p18.cell 0 (.slice a L.length cap) rfl
  go_wp2_with fail
  refine (specJams_any _ L.length pc L ha _ s13.row).mono ?_
  rintro e w21 ⟨rfl, d22⟩
  rw [HY.out]
  have b23 := bstep b17 d22
  have p24 := p18.below d22
  have s25 := s13.below d22
  have z26 := Lib.hid d22.size
  clear b17 p18 s13 c20 d22
  have c29 := p24.cell 0 (.slice a L.length cap) rfl
  go_wp2_with fail
  refine (toRam_seg a cap L _ hl (hr.below b23)).mono ?_
  rintro e w30 ⟨g27, rfl, s28, d31⟩
  have b32 := bstep b23 d31
  have p33 := p24.below d31
  have z34 := Lib.hid d31.size
  clear b23 p24 s25 c29 d31
  have d35 : Below w30.heap.size w30 (w30.alloc (.cells #[.slice (some ⟨g27, 0, none⟩) L.length L.length] 34)) := (Below.refl _ _).alloc (Nat.le_refl _) _
  have p36 : BoxN (w30.alloc (.cells #[.slice (some ⟨g27, 0, none⟩) L.length L.length] 34)) w30.heap.size 34 #[.slice (some ⟨g27, 0, none⟩) L.length L.length] := BoxN.new _ _ _
  have z37 : Hid ((w30.alloc (.cells #[.slice (some ⟨g27, 0, none⟩) L.length L.length] 34)).heap.size = w30.heap.size + 1) := Lib.hid (World.size_alloc _ _)
  have b38 := bstep b32 d35
  have p39 := p33.below d35
  have s40 := s28.below d35
  have z41 := Lib.hid d35.size
  clear b32 p33 s28 d35
  have c42 := p39.cell 0 (.slice a L.length cap) rfl
  have c43 := p36.cell 0 (.slice (some ⟨g27, 0, none⟩) L.length L.length) rfl
  go_wp2_with fail
  refine (HI _ L.length pc L _ ha hl (Nat.le_refl _) s40.row).mono ?_
  rintro e w44 ⟨rfl, d45⟩
  rw [HY.out]
  have b46 := bstep b38 d45
  have p47 := p39.below d45
  have p48 := p36.below d45
  have s49 := s40.below d45
  have z50 := Lib.hid d45.size
  clear b38 p39 p36 s40 c42 c43 d45
  have p51 := p47.drew
  have p52 := p48.drew
  have s53 := s49.drew
  have b54 := b46.drew
  have S55 : w44.drew.cell? ⟨w30.heap.size, 0, none⟩ = some (.slice (some ⟨g27, 0, none⟩) L.length L.length) ∧ w44.drew.cell? ⟨w.heap.size, 0, none⟩ = some (.slice a L.length cap) ∧ w30.heap.size < w44.drew.heap.size ∧ w.heap.size < w44.drew.heap.size := ⟨p52.cell 0 (.slice (some ⟨g27, 0, none⟩) L.length L.length) rfl, p51.cell 0 (.slice a L.length cap) rfl, p52.lt, p51.lt⟩
  have r56 := hr.below b54
  clear p47 p48 s49 b46
  go_wp2_with fail
  go_region_held3 (fun w' => w'.cell? ⟨w30.heap.size, 0, none⟩ = some (.slice (some ⟨g27, 0, none⟩) L.length L.length) ∧ w'.cell? ⟨w.heap.size, 0, none⟩ = some (.slice a L.length cap) ∧ w30.heap.size < w'.heap.size ∧ w.heap.size < w'.heap.size)
    (((try dsimp only); (first | (with_reducible exact S55) | (with_reducible exact two_keep d58 S55) | (with_reducible exact two_keep d62 (two_keep d58 S55)))))
    (first | (go_at_call 8; refine (toRam_any a cap L _ hl r56).mono ?_; rintro e w57 ⟨g59, rfl, o60, d58⟩) | (go_at_call 11; refine (eqRam_true _ _ L.length L.length L _ (by omega) (s53.1.below d58).row.2 o60.row.2).mono ?_; rintro e w61 ⟨rfl, d62⟩))
  have z63 : Hid (w44.drew.heap.size = w44.heap.size) := Lib.hid rfl
  have b64 := bstep b54 d58
  have p65 := p51.below d58
  have p66 := p52.below d58
  have s67 := s53.below d58
  have z68 := Lib.hid d58.size
  clear b54 p51 p52 s53 S55 r56 o60 d58
  have b69 := bstep b64 d62
  have p70 := p65.below d62
  have p71 := p66.below d62
  have s72 := s67.below d62
  have z73 := Lib.hid d62.size
  clear b64 p65 p66 s67 d62
  go_wp2
  go_ret
  exact ⟨rfl, b69⟩

end Go.Proofs.Ytblchdmemhhcbaa
