/-
  The law of what is pushed and pulled (FnPushed), walked over any program whose functions keep their contracts.
-/
import Derived.Test.YtblchdmemhhcbaaGreatQPRegPush
import Derived.Test.YtblchdmemhhcbaaGreatQPStepBack
import Derived.Test.YtblchdmemhhcbaaGreatQPDrawStep2
import Derived.Test.YtblchdmemhhcbaaGreatQPCodesLaw
import Derived.Deep.DeepCutAuto
namespace Go.Proofs.YtblchdmemhhcbaaGreat
set_option linter.unusedVariables false
set_option linter.unusedSimpArgs false
open Go.RowKit

set_option maxRecDepth 100000 in
set_option maxHeartbeats 4000000 in
theorem walkFnPushed (HI : ImplStep) (HF : ImplFill) (a : Option Addr) (len cap : Nat) (z : List Int) (w : World) (hcode : CodeRow w.heap.size w a len z) (hl : len ≤ 1048576) :
    Calls Tryz.prog 6 #[.slice a len cap] w fun e w' => e = .returned (.bool true) ∧ Below w.heap.size w w' := by
  have hbig : decide ((1048576 : Int) < len) = false := by simp; omega
  go_enter Tryz.func6, Tryz.ntmps6
  go_wp2_with fail
  refine (bigCode_any _ _ _ _).mono ?_
  rintro e w' ⟨rfl, rfl⟩
  rw [hbig]
  clear hbig
  go_wp2_with fail
  refine (drawStep_any w.heap.size a len cap z w hcode (Nat.le_refl _)).mono ?_
  rintro e w1 ⟨c, v1, L, hc, hL, rfl, o1, d1⟩
  have s1 := SegB.of o1
  obtain ⟨a1, c1, rfl, h1c⟩ := s1.len
  have k2 : Below w1.heap.size w1 ((w1.alloc (.cells (cpuCells c) 28)).alloc (.cells #[.slice a1 L.length c1] 30)) := ((Below.refl _ _).alloc (Nat.le_refl _) _).alloc (by simp) _
  obtain ⟨p2, r2, _⟩ := two_call (w := w1) (cs := cpuCells c) (zs := #[.slice a1 L.length c1]) (t := 28) (u := 30) (Below.refl _ _)
  have s2 := s1.below k2
  have b2 := bstep d1 k2
  have z2 : ((w1.alloc (.cells (cpuCells c) 28)).alloc (.cells #[.slice a1 L.length c1] 30)).heap.size = w1.heap.size + 1 + 1 := by simp
  have zw := d1.size
  clear o1 d1 s1 k2
  have HO := fun w => specOk_any a1 L.length c1 w
  have rc := r2.cell 0 (.slice a1 L.length c1) rfl
  go_wp2_with fail
  clear rc
  generalize (w1.alloc (.cells (cpuCells c) 28)).alloc (.cells #[.slice a1 L.length c1] 30) = w2 at p2 r2 s2 b2 z2 ⊢
  refine (HO _).mono ?_
  rintro e w3 ⟨rfl, d3⟩
  have p3 := p2.below d3
  have r3 := r2.below d3
  have s3 := s2.below d3
  have b3 := bstep b2 d3
  have z3 := d3.size
  clear p2 r2 s2 b2 d3 HO hcode
  cases hram : ramN L.length with
  | false =>
    go_wp2
    go_ret
    exact ⟨rfl, b3⟩
  | true =>
    have rc := r3.cell 0 (.slice a1 L.length c1) rfl
    by_cases hbg : L.length < 1024
    · have hb2 : decide ((L.length : Int) < 1024) = true := decide_eq_true (by omega)
      go_wp2
      go_ret
      exact ⟨rfl, b3⟩
    · have hb2 : decide ((L.length : Int) < 1024) = false := decide_eq_false (by omega)
      have h1024 : 1024 ≤ L.length := by omega
      have g4 := p3.cell 4 (.int .u16 (c.PC : Int)) rfl
      have gf := fun i => p3.frozen i
      have sp : Span w1.heap.size (w1.heap.size + 1) w3 (w3.setCell ⟨w1.heap.size, 4, none⟩ (.int .u16 700)) := Span.set _ _ _ _
      have p4 : BoxN (w3.setCell ⟨w1.heap.size, 4, none⟩ (.int .u16 700)) w1.heap.size 28 (cpuCells { c with PC := 700 }) := BoxN.set p3 4 (.int .u16 700)
      have r4 := r3.span sp (by omega)
      have s4 := s3.span sp (by omega)
      have b4 := b3.trans (sp.below (by omega) b3.size)
      clear hbg
      go_wp2_with fail
      have b4z := sp.size
      clear g4 gf rc hb2 p3 r3 s3 b3 sp
      generalize w3.setCell ⟨w1.heap.size, 4, none⟩ (.int .u16 700) = w4 at p4 r4 s4 b4 b4z ⊢
      have z101 := Lib.hid (zw)
      have z102 := Lib.hid (z2)
      have z103 := Lib.hid (z3)
      have z104 := Lib.hid (b4z)
      clear zw z2 z3 b4z
      obtain ⟨d1, M1, lg1, e1, N1, mg1, hs1, ht1, hd1, he1, hM1⟩ := push_a c hc L hram h1024
      obtain ⟨F1, hF1⟩ : ∃ F, fillL L 700 [72, 104] = F := ⟨_, rfl⟩
      have hFl1 : F1.length = L.length := by rw [← hF1, fill2 L _ _ hram h1024]; simp
      rw [hF1] at hs1
      have HFL1 : ∀ (g : Nat) (W : World), RowB W a1 L → RowB W (some ⟨g, 0, none⟩) [72, 104] → Calls Tryz.prog 20 #[ramV (.slice a1 L.length c1), .int .u16 700, .slice (some ⟨g, 0, none⟩) 2 2] W fun e w' => ∃ v, e = .returned (ramV v) ∧ OwnB w' W.heap.size v F1 ∧ Below W.heap.size W w' := fun g W h1 h2 => by have h := HF a1 c1 700 L (some ⟨g, 0, none⟩) 2 [72, 104] W (by decide) (by omega) h1c (by simp) (by simp) h1 h2; rw [hF1] at h; exact h
      have HST1 : ∀ (fa : Option Addr) (fcap : Nat) (W : World), F1.length ≤ fcap → RowB W fa F1 → Calls Tryz.prog 10 #[cpuV ({ c with PC := 700 } : CpuN), ramV (.slice fa F1.length fcap)] W (Stepped W (d1, ⟨M1, lg1⟩)) := fun fa fcap W h1 h2 => by have h := HI ({ c with PC := 700 } : CpuN) fa fcap F1 W ⟨hc.1, hc.2.1, hc.2.2.1, hc.2.2.2.1, by show 700 < 65536; decide⟩ (by omega) h1 h2; rw [hs1] at h; exact h
      have hok1 : d1.ok := by rw [hd1]; exact ⟨hc.1, hc.2.1, hc.2.2.1, Nat.mod_lt _ (by decide), by show 701 < 65536; decide⟩
      have HT1 := fun a cap W h1 h2 => HI d1 a cap M1 W hok1 (by omega) h1 h2
      rw [ht1] at HT1
      have hS1 : ((d1.S : Int) == ((c.S : Int) - 1) % 256) = true := beq_iff_eq.2 (by have h := congrArg CpuN.S hd1; dsimp only at h; rw [h]; have := hc.2.2.2.1; omega)
      have hT1 : ((d1.S : Int) == IntKind.u8.wrap ((c.S : Int) - 1)) = true := beq_iff_eq.2 (by have h := congrArg CpuN.S hd1; dsimp only at h; rw [h]; have := hc.2.2.2.1; simp only [IntKind.wrap, IntKind.bits, IntKind.signed]; simp; omega)
      have HE1 := Lib.hid he1
      have HS1 := Lib.hid (And.intro hS1 hT1)
      have HM1 := Lib.hid hM1
      clear hs1 ht1 hd1 he1 hF1 hFl1 hok1 hS1 hT1 hM1
      obtain ⟨d2, M2, lg2, e2, N2, mg2, hs2, ht2, hd2, he2, hM2⟩ := push_p c hc L hram h1024
      obtain ⟨F2, hF2⟩ : ∃ F, fillL L 700 [8, 40] = F := ⟨_, rfl⟩
      have hFl2 : F2.length = L.length := by rw [← hF2, fill2 L _ _ hram h1024]; simp
      rw [hF2] at hs2
      have HFL2 : ∀ (g : Nat) (W : World), RowB W a1 L → RowB W (some ⟨g, 0, none⟩) [8, 40] → Calls Tryz.prog 20 #[ramV (.slice a1 L.length c1), .int .u16 700, .slice (some ⟨g, 0, none⟩) 2 2] W fun e w' => ∃ v, e = .returned (ramV v) ∧ OwnB w' W.heap.size v F2 ∧ Below W.heap.size W w' := fun g W h1 h2 => by have h := HF a1 c1 700 L (some ⟨g, 0, none⟩) 2 [8, 40] W (by decide) (by omega) h1c (by simp) (by simp) h1 h2; rw [hF2] at h; exact h
      have HST2 : ∀ (fa : Option Addr) (fcap : Nat) (W : World), F2.length ≤ fcap → RowB W fa F2 → Calls Tryz.prog 10 #[cpuV ({ c with PC := 700 } : CpuN), ramV (.slice fa F2.length fcap)] W (Stepped W (d2, ⟨M2, lg2⟩)) := fun fa fcap W h1 h2 => by have h := HI ({ c with PC := 700 } : CpuN) fa fcap F2 W ⟨hc.1, hc.2.1, hc.2.2.1, hc.2.2.2.1, by show 700 < 65536; decide⟩ (by omega) h1 h2; rw [hs2] at h; exact h
      have hok2 : d2.ok := by rw [hd2]; exact ⟨hc.1, hc.2.1, hc.2.2.1, Nat.mod_lt _ (by decide), by show 701 < 65536; decide⟩
      have HT2 := fun a cap W h1 h2 => HI d2 a cap M2 W hok2 (by omega) h1 h2
      rw [ht2] at HT2
      have hS2 : ((d2.S : Int) == ((c.S : Int) - 1) % 256) = true := beq_iff_eq.2 (by have h := congrArg CpuN.S hd2; dsimp only at h; rw [h]; have := hc.2.2.2.1; omega)
      have hT2 : ((d2.S : Int) == IntKind.u8.wrap ((c.S : Int) - 1)) = true := beq_iff_eq.2 (by have h := congrArg CpuN.S hd2; dsimp only at h; rw [h]; have := hc.2.2.2.1; simp only [IntKind.wrap, IntKind.bits, IntKind.signed]; simp; omega)
      have HE2 := Lib.hid he2
      have HS2 := Lib.hid (And.intro hS2 hT2)
      have HM2 := Lib.hid hM2
      clear hs2 ht2 hd2 he2 hF2 hFl2 hok2 hS2 hT2 hM2
      go_wp2_with fail
      go_cut [5, 6, 7] from 35 to 43 (fun p q u W => Took3 w4 (d1, ⟨M1, lg1⟩) p q u W)
      case first =>
        rename_i J K' hJ hK
        refine pushReg7 ({ c with PC := 700 } : CpuN) (d1, ⟨M1, lg1⟩) a1 L.length c1 F1 L _ _ _ p4 r4 s4.row HFL1 HST1 _ rfl rfl rfl _ ?_ _ (by kernel_rfl) _
        intro a' W hf ht
        exact hK _ _ (Met.intro (hJ _ _ ⟨a'.eval (.tmp 5), a'.eval (.tmp 6), a'.eval (.tmp 7), a'.eval (.tmp 35), a'.eval (.tmp 36), a'.eval (.tmp 37), a'.eval (.tmp 38), a'.eval (.tmp 39), a'.eval (.tmp 40), a'.eval (.tmp 41), a'.eval (.tmp 42), a'.eval (.tmp 43), ht, hf.eq.trans (by kernel_rfl)⟩))
      clear HFL1 HST1
      obtain ⟨w7, hW⟩ : ∃ W, W = wc := ⟨_, rfl⟩
      subst hW
      obtain ⟨P110, Q111, a112, cap113, a114, cap115, lo116, hi117, lo118, hi119, rfl, rfl, rfl, p105, p106, s107, s108, r109, d120⟩ := hcut
      dsimp only at p105 p106 s107 ⊢
      have r109h := Lib.hid r109
      have p105l := Lib.hid p105.lt
      have p106l := Lib.hid p106.lt
      have b121 := bstep b4 d120
      have p122 := p4.below d120
      have p123 := r4.below d120
      have s124 := s4.below d120
      have z125 := Lib.hid d120.size
      clear b4 p4 r4 s4 s108 r109 d120
      have hcap126 : M1.length ≤ cap113 := by
        obtain ⟨_, _, e3, h3⟩ := s107.len
        simp only [Value.slice.injEq] at e3
        obtain ⟨_, _, rfl⟩ := e3
        exact h3
      obtain ⟨k127_0, k127_1, k127_2, k127_3, k127_4, k127_5, k127_6, k127_7, k127_8, k127_9, k127_10, k127_11⟩ := eleven p105
      have c128 := p106.cell 0 (.slice a112 M1.length cap113) rfl
      go_wp2_with fail
      refine (HT1 a112 cap113 _ hcap126 s107.row).mono ?_
      rintro e w129 hst
      obtain ⟨a131, c132, a133, c134, lo135, hi136, lo137, hi138, rfl, s139, s140, r141, d130⟩ := hst.three
      clear hst
      dsimp only at s139 ⊢
      have r141h := Lib.hid r141
      have b142 := bstep b121 d130
      have p143 := p122.below d130
      have p144 := p123.below d130
      have p145 := p105.below d130
      have p146 := p106.below d130
      have s147 := s124.below d130
      have s148 := s107.below d130
      have z149 := Lib.hid d130.size
      clear b121 p122 p123 p105 p106 s124 s107 k127_0 k127_1 k127_2 k127_3 k127_4 k127_5 k127_6 k127_7 k127_8 k127_9 k127_10 k127_11 c128 s140 r141 d130
      obtain ⟨y151, x152, _⟩ := two_call (w := w129) (cs := cpuCells e1) (zs := #[.slice a131 N1.length c132]) (t := 28) (u := 30) (Below.refl _ _)
      have d154 : Below w129.heap.size w129 ((w129.alloc (.cells (cpuCells e1) 28)).alloc (.cells #[.slice a131 N1.length c132] 30)) := ((Below.refl _ _).alloc (Nat.le_refl _) _).alloc (by simp) _
      have z153 : Hid (((w129.alloc (.cells (cpuCells e1) 28)).alloc (.cells #[.slice a131 N1.length c132] 30)).heap.size = w129.heap.size + 1 + 1) := Lib.hid (by simp)
      have b155 := bstep b142 d154
      have p156 := p143.below d154
      have p157 := p144.below d154
      have p158 := p145.below d154
      have p159 := p146.below d154
      have s160 := s147.below d154
      have s161 := s148.below d154
      have s162 := s139.below d154
      have z163 := Lib.hid d154.size
      clear b142 p143 p144 p145 p146 s147 s148 s139 d154
      obtain ⟨k164_0, k164_1, k164_2, k164_3, k164_4, k164_5, k164_6, k164_7, k164_8, k164_9, k164_10, k164_11⟩ := eleven p156
      have d165 := alw ((w129.alloc (.cells (cpuCells e1) 28)).alloc (.cells #[.slice a131 N1.length c132] 30)) (.cells #[.int .u8 (c.A : Int), .int .u8 (c.X : Int), .int .u8 (c.Y : Int), .int .u8 (c.S : Int), .int .u16 702, .bool c.N, .bool c.V, .bool c.D, .bool c.I, .bool c.Z, .bool c.C] 28)
      have p166 : BoxN (((w129.alloc (.cells (cpuCells e1) 28)).alloc (.cells #[.slice a131 N1.length c132] 30)).alloc (.cells #[.int .u8 (c.A : Int), .int .u8 (c.X : Int), .int .u8 (c.Y : Int), .int .u8 (c.S : Int), .int .u16 702, .bool c.N, .bool c.V, .bool c.D, .bool c.I, .bool c.Z, .bool c.C] 28)) (w129.heap.size + 1 + 1) 28 #[.int .u8 (c.A : Int), .int .u8 (c.X : Int), .int .u8 (c.Y : Int), .int .u8 (c.S : Int), .int .u16 702, .bool c.N, .bool c.V, .bool c.D, .bool c.I, .bool c.Z, .bool c.C] := by
        have h := BoxN.new ((w129.alloc (.cells (cpuCells e1) 28)).alloc (.cells #[.slice a131 N1.length c132] 30)) 28 #[.int .u8 (c.A : Int), .int .u8 (c.X : Int), .int .u8 (c.Y : Int), .int .u8 (c.S : Int), .int .u16 702, .bool c.N, .bool c.V, .bool c.D, .bool c.I, .bool c.Z, .bool c.C]
        rwa [z153.out] at h
      have z167 : Hid ((((w129.alloc (.cells (cpuCells e1) 28)).alloc (.cells #[.slice a131 N1.length c132] 30)).alloc (.cells #[.int .u8 (c.A : Int), .int .u8 (c.X : Int), .int .u8 (c.Y : Int), .int .u8 (c.S : Int), .int .u16 702, .bool c.N, .bool c.V, .bool c.D, .bool c.I, .bool c.Z, .bool c.C] 28)).heap.size = ((w129.alloc (.cells (cpuCells e1) 28)).alloc (.cells #[.slice a131 N1.length c132] 30)).heap.size + 1) := Lib.hid (World.size_alloc _ _)
      have b168 := bstep b155 d165
      have p169 := p156.below d165
      have p170 := p157.below d165
      have p171 := p158.below d165
      have p172 := p159.below d165
      have p173 := y151.below d165
      have s174 := s160.below d165
      have z175 := Lib.hid d165.size
      clear b155 p156 p157 p158 p159 y151 s160 HT1 s162 s161 d165
      obtain ⟨k176_0, k176_1, k176_2, k176_3, k176_4, k176_5, k176_6, k176_7, k176_8, k176_9, k176_10, k176_11⟩ := eleven p169
      obtain ⟨k177_0, k177_1, k177_2, k177_3, k177_4, k177_5, k177_6, k177_7, k177_8, k177_9, k177_10, k177_11⟩ := eleven p166
      go_wp2_with fail
      refine (specNZ_any (c.A : Int) c.N c.V c.D c.I c.Z c.C _ (by omega) (by have := hc.1; omega)).mono ?_
      rintro e w178 ⟨rfl, d179⟩
      have b180 := bstep b168 d179
      have p181 := p169.below d179
      have p182 := p170.below d179
      have p183 := p171.below d179
      have p184 := p172.below d179
      have p185 := p173.below d179
      have p186 := p166.below d179
      have s187 := s174.below d179
      have z188 := Lib.hid d179.size
      clear b168 p169 p170 p171 p172 p173 p166 s174 k176_0 k176_1 k176_2 k176_3 k176_4 k176_5 k176_6 k176_7 k176_8 k176_9 k176_10 k176_11 k177_0 k177_1 k177_2 k177_3 k177_4 k177_5 k177_6 k177_7 k177_8 k177_9 k177_10 k177_11 k164_0 k164_1 k164_2 k164_3 k164_4 k164_5 k164_6 k164_7 k164_8 k164_9 k164_10 k164_11 d179
      obtain ⟨k189_0, k189_1, k189_2, k189_3, k189_4, k189_5, k189_6, k189_7, k189_8, k189_9, k189_10, k189_11⟩ := eleven p186
      have d190 : Span (w129.heap.size + 1 + 1) ((w129.heap.size + 1 + 1) + 1) w178 ((((((w178.setCell ⟨(w129.heap.size + 1 + 1), 5, none⟩ (.bool (bit7 c.A))).setCell ⟨(w129.heap.size + 1 + 1), 6, none⟩ (.bool c.V)).setCell ⟨(w129.heap.size + 1 + 1), 7, none⟩ (.bool c.D)).setCell ⟨(w129.heap.size + 1 + 1), 8, none⟩ (.bool c.I)).setCell ⟨(w129.heap.size + 1 + 1), 9, none⟩ (.bool (isZ c.A))).setCell ⟨(w129.heap.size + 1 + 1), 10, none⟩ (.bool c.C)) := (((((Span.set _ _ _ _).trans (Span.set _ _ _ _)).trans (Span.set _ _ _ _)).trans (Span.set _ _ _ _)).trans (Span.set _ _ _ _)).trans (Span.set _ _ _ _)
      have p191 : BoxN ((((((w178.setCell ⟨(w129.heap.size + 1 + 1), 5, none⟩ (.bool (bit7 c.A))).setCell ⟨(w129.heap.size + 1 + 1), 6, none⟩ (.bool c.V)).setCell ⟨(w129.heap.size + 1 + 1), 7, none⟩ (.bool c.D)).setCell ⟨(w129.heap.size + 1 + 1), 8, none⟩ (.bool c.I)).setCell ⟨(w129.heap.size + 1 + 1), 9, none⟩ (.bool (isZ c.A))).setCell ⟨(w129.heap.size + 1 + 1), 10, none⟩ (.bool c.C)) (w129.heap.size + 1 + 1) 28 #[.int .u8 (c.A : Int), .int .u8 (c.X : Int), .int .u8 (c.Y : Int), .int .u8 (c.S : Int), .int .u16 702, .bool (bit7 c.A), .bool c.V, .bool c.D, .bool c.I, .bool (isZ c.A), .bool c.C] := ((((((p186.set 5 (.bool (bit7 c.A))).set 6 (.bool c.V)).set 7 (.bool c.D)).set 8 (.bool c.I)).set 9 (.bool (isZ c.A))).set 10 (.bool c.C))
      have b192 := b180.trans (d190.below (by have := z101.out; have := z102.out; have := z103.out; have := z104.out; have := r109h.out; have := p105l.out; have := p106l.out; have := z125.out; have := r141h.out; have := z149.out; have := z153.out; have := z163.out; have := z167.out; have := z175.out; have := z188.out; omega) b180.size)
      have p193 := p181.span d190 (by have := z101.out; have := z102.out; have := z103.out; have := z104.out; have := r109h.out; have := p105l.out; have := p106l.out; have := z125.out; have := r141h.out; have := z149.out; have := z153.out; have := z163.out; have := z167.out; have := z175.out; have := z188.out; omega)
      have p194 := p182.span d190 (by have := z101.out; have := z102.out; have := z103.out; have := z104.out; have := r109h.out; have := p105l.out; have := p106l.out; have := z125.out; have := r141h.out; have := z149.out; have := z153.out; have := z163.out; have := z167.out; have := z175.out; have := z188.out; omega)
      have p195 := p183.span d190 (by have := z101.out; have := z102.out; have := z103.out; have := z104.out; have := r109h.out; have := p105l.out; have := p106l.out; have := z125.out; have := r141h.out; have := z149.out; have := z153.out; have := z163.out; have := z167.out; have := z175.out; have := z188.out; omega)
      have p196 := p184.span d190 (by have := z101.out; have := z102.out; have := z103.out; have := z104.out; have := r109h.out; have := p105l.out; have := p106l.out; have := z125.out; have := r141h.out; have := z149.out; have := z153.out; have := z163.out; have := z167.out; have := z175.out; have := z188.out; omega)
      have p197 := p185.span d190 (by have := z101.out; have := z102.out; have := z103.out; have := z104.out; have := r109h.out; have := p105l.out; have := p106l.out; have := z125.out; have := r141h.out; have := z149.out; have := z153.out; have := z163.out; have := z167.out; have := z175.out; have := z188.out; omega)
      have s198 := s187.span d190 (by have := z101.out; have := z102.out; have := z103.out; have := z104.out; have := r109h.out; have := p105l.out; have := p106l.out; have := z125.out; have := r141h.out; have := z149.out; have := z153.out; have := z163.out; have := z167.out; have := z175.out; have := z188.out; omega)
      have z199 := Lib.hid d190.size
      clear b180 p181 p182 p183 p184 p185 s187 p186 d190
      go_wp2_with fail
      clear k189_0 k189_1 k189_2 k189_3 k189_4 k189_5 k189_6 k189_7 k189_8 k189_9 k189_10 k189_11
      generalize ((((((w178.setCell ⟨(w129.heap.size + 1 + 1), 5, none⟩ (.bool (bit7 c.A))).setCell ⟨(w129.heap.size + 1 + 1), 6, none⟩ (.bool c.V)).setCell ⟨(w129.heap.size + 1 + 1), 7, none⟩ (.bool c.D)).setCell ⟨(w129.heap.size + 1 + 1), 8, none⟩ (.bool c.I)).setCell ⟨(w129.heap.size + 1 + 1), 9, none⟩ (.bool (isZ c.A))).setCell ⟨(w129.heap.size + 1 + 1), 10, none⟩ (.bool c.C)) = w16 at p193 p194 p195 p196 p197 p191 s198 b192 z101 z102 z103 z104 r109h p105l p106l z125 r141h z149 z153 z163 z167 z175 z188 z199 ⊢
      go_cut [12, 13] from 59 to 67 (fun p u W => TookS w16 (d2, ⟨M2, lg2⟩) Q111 p u W)
      case first =>
        rename_i J K' hJ hK
        refine pushReg12 ({ c with PC := 700 } : CpuN) (d2, ⟨M2, lg2⟩) a1 L.length c1 F2 L _ Q111 _ _ _ p193 p194 s198.row p196 (by have := z101.out; have := z102.out; have := z103.out; have := z104.out; have := r109h.out; have := p105l.out; have := p106l.out; have := z125.out; have := r141h.out; have := z149.out; have := z153.out; have := z163.out; have := z167.out; have := z175.out; have := z188.out; have := z199.out; omega) (by have := z101.out; have := z102.out; have := z103.out; have := z104.out; have := r109h.out; have := p105l.out; have := p106l.out; have := z125.out; have := r141h.out; have := z149.out; have := z153.out; have := z163.out; have := z167.out; have := z175.out; have := z188.out; have := z199.out; omega) (fun W h => (s198.span h (by have := z101.out; have := z102.out; have := z103.out; have := z104.out; have := r109h.out; have := p105l.out; have := p106l.out; have := z125.out; have := r141h.out; have := z149.out; have := z153.out; have := z163.out; have := z167.out; have := z175.out; have := z188.out; have := z199.out; omega)).row) HFL2 HST2 _ rfl rfl rfl rfl _ ?_ _ (by kernel_rfl) _
        intro a' W hf ht
        exact hK _ _ (Met.intro (hJ _ _ ⟨a'.eval (.tmp 12), a'.eval (.tmp 13), a'.eval (.tmp 59), a'.eval (.tmp 60), a'.eval (.tmp 61), a'.eval (.tmp 62), a'.eval (.tmp 63), a'.eval (.tmp 64), a'.eval (.tmp 65), a'.eval (.tmp 66), a'.eval (.tmp 67), ht, hf.eq.trans (by kernel_rfl)⟩))
      clear HFL2 HST2
      obtain ⟨w17, hW⟩ : ∃ W, W = wc := ⟨_, rfl⟩
      subst hW
      obtain ⟨P205, a207, cap208, a209, cap210, lo211, hi212, lo213, hi214, rfl, rfl, p200, p201, s202, s203, r204, d215⟩ := hcut
      dsimp only at p200 p201 s202 ⊢
      have r204h := Lib.hid r204
      have b216 := b192.trans (d215.below (by have := z101.out; have := z102.out; have := z103.out; have := z104.out; have := r109h.out; have := p105l.out; have := p106l.out; have := z125.out; have := r141h.out; have := z149.out; have := z153.out; have := z163.out; have := z167.out; have := z175.out; have := z188.out; have := z199.out; have := r204h.out; omega) b192.size)
      have p217 := p193.span d215 (by have := z101.out; have := z102.out; have := z103.out; have := z104.out; have := r109h.out; have := p105l.out; have := p106l.out; have := z125.out; have := r141h.out; have := z149.out; have := z153.out; have := z163.out; have := z167.out; have := z175.out; have := z188.out; have := z199.out; have := r204h.out; omega)
      have p218 := p195.span d215 (by have := z101.out; have := z102.out; have := z103.out; have := z104.out; have := r109h.out; have := p105l.out; have := p106l.out; have := z125.out; have := r141h.out; have := z149.out; have := z153.out; have := z163.out; have := z167.out; have := z175.out; have := z188.out; have := z199.out; have := r204h.out; omega)
      have p219 := p197.span d215 (by have := z101.out; have := z102.out; have := z103.out; have := z104.out; have := r109h.out; have := p105l.out; have := p106l.out; have := z125.out; have := r141h.out; have := z149.out; have := z153.out; have := z163.out; have := z167.out; have := z175.out; have := z188.out; have := z199.out; have := r204h.out; omega)
      have p220 := p191.span d215 (by have := z101.out; have := z102.out; have := z103.out; have := z104.out; have := r109h.out; have := p105l.out; have := p106l.out; have := z125.out; have := r141h.out; have := z149.out; have := z153.out; have := z163.out; have := z167.out; have := z175.out; have := z188.out; have := z199.out; have := r204h.out; omega)
      have z221 := Lib.hid d215.size
      clear b192 p193 p195 p197 p191 s203 r204 p196 p194 s198 d215
      have p200l := Lib.hid p200.lt
      have hcap222 : M2.length ≤ cap208 := by
        obtain ⟨_, _, e3, h3⟩ := s202.len
        simp only [Value.slice.injEq] at e3
        obtain ⟨_, _, rfl⟩ := e3
        exact h3
      obtain ⟨k223_0, k223_1, k223_2, k223_3, k223_4, k223_5, k223_6, k223_7, k223_8, k223_9, k223_10, k223_11⟩ := eleven p200
      have c224 := p201.cell 0 (.slice a207 M2.length cap208) rfl
      go_wp2_with fail
      refine (HT2 a207 cap208 _ hcap222 s202.row).mono ?_
      rintro e w225 hst
      obtain ⟨a227, c228, a229, c230, lo231, hi232, lo233, hi234, rfl, s235, s236, r237, d226⟩ := hst.three
      clear hst
      dsimp only at s235 ⊢
      have r237h := Lib.hid r237
      have b238 := bstep b216 d226
      have p239 := p217.below d226
      have p240 := p218.below d226
      have p241 := p219.below d226
      have p242 := p220.below d226
      have p243 := p200.below d226
      have p244 := p201.below d226
      have s245 := s202.below d226
      have z246 := Lib.hid d226.size
      clear b216 p217 p218 p219 p220 p200 p201 s202 k223_0 k223_1 k223_2 k223_3 k223_4 k223_5 k223_6 k223_7 k223_8 k223_9 k223_10 k223_11 c224 s236 r237 d226
      obtain ⟨y248, x249, _⟩ := two_call (w := w225) (cs := cpuCells e2) (zs := #[.slice a227 N2.length c228]) (t := 28) (u := 30) (Below.refl _ _)
      have d251 : Below w225.heap.size w225 ((w225.alloc (.cells (cpuCells e2) 28)).alloc (.cells #[.slice a227 N2.length c228] 30)) := ((Below.refl _ _).alloc (Nat.le_refl _) _).alloc (by simp) _
      have z250 : Hid (((w225.alloc (.cells (cpuCells e2) 28)).alloc (.cells #[.slice a227 N2.length c228] 30)).heap.size = w225.heap.size + 1 + 1) := Lib.hid (by simp)
      have b252 := bstep b238 d251
      have p253 := p239.below d251
      have p254 := p240.below d251
      have p255 := p241.below d251
      have p256 := p242.below d251
      have p257 := p243.below d251
      have p258 := p244.below d251
      have s259 := s245.below d251
      have s260 := s235.below d251
      have z261 := Lib.hid d251.size
      clear b238 p239 p240 p241 p242 p243 p244 s245 s235 d251
      obtain ⟨k262_0, k262_1, k262_2, k262_3, k262_4, k262_5, k262_6, k262_7, k262_8, k262_9, k262_10, k262_11⟩ := eleven p253
      have d263 := alw ((w225.alloc (.cells (cpuCells e2) 28)).alloc (.cells #[.slice a227 N2.length c228] 30)) (.cells #[.int .u8 (c.A : Int), .int .u8 (c.X : Int), .int .u8 (c.Y : Int), .int .u8 (c.S : Int), .int .u16 702, .bool c.N, .bool c.V, .bool c.D, .bool c.I, .bool c.Z, .bool c.C] 28)
      have p264 : BoxN (((w225.alloc (.cells (cpuCells e2) 28)).alloc (.cells #[.slice a227 N2.length c228] 30)).alloc (.cells #[.int .u8 (c.A : Int), .int .u8 (c.X : Int), .int .u8 (c.Y : Int), .int .u8 (c.S : Int), .int .u16 702, .bool c.N, .bool c.V, .bool c.D, .bool c.I, .bool c.Z, .bool c.C] 28)) (w225.heap.size + 1 + 1) 28 #[.int .u8 (c.A : Int), .int .u8 (c.X : Int), .int .u8 (c.Y : Int), .int .u8 (c.S : Int), .int .u16 702, .bool c.N, .bool c.V, .bool c.D, .bool c.I, .bool c.Z, .bool c.C] := by
        have h := BoxN.new ((w225.alloc (.cells (cpuCells e2) 28)).alloc (.cells #[.slice a227 N2.length c228] 30)) 28 #[.int .u8 (c.A : Int), .int .u8 (c.X : Int), .int .u8 (c.Y : Int), .int .u8 (c.S : Int), .int .u16 702, .bool c.N, .bool c.V, .bool c.D, .bool c.I, .bool c.Z, .bool c.C]
        rwa [z250.out] at h
      have z265 : Hid ((((w225.alloc (.cells (cpuCells e2) 28)).alloc (.cells #[.slice a227 N2.length c228] 30)).alloc (.cells #[.int .u8 (c.A : Int), .int .u8 (c.X : Int), .int .u8 (c.Y : Int), .int .u8 (c.S : Int), .int .u16 702, .bool c.N, .bool c.V, .bool c.D, .bool c.I, .bool c.Z, .bool c.C] 28)).heap.size = ((w225.alloc (.cells (cpuCells e2) 28)).alloc (.cells #[.slice a227 N2.length c228] 30)).heap.size + 1) := Lib.hid (World.size_alloc _ _)
      have b266 := bstep b252 d263
      have p267 := p253.below d263
      have p268 := p254.below d263
      have p269 := p255.below d263
      have p270 := p256.below d263
      have p271 := p257.below d263
      have p272 := y248.below d263
      have z273 := Lib.hid d263.size
      clear b252 p253 p254 p255 p256 p257 y248 HT2 p258 x249 s260 s259 d263
      have c274 := p267.cell 3 (.int .u8 (c.S : Int)) rfl
      have c275 := p268.cell 3 (.int .u8 (d1.S : Int)) rfl
      have c276 := p271.cell 3 (.int .u8 (d2.S : Int)) rfl
      obtain ⟨k277_0, k277_1, k277_2, k277_3, k277_4, k277_5, k277_6, k277_7, k277_8, k277_9, k277_10, k277_11⟩ := eleven p269
      obtain ⟨k278_0, k278_1, k278_2, k278_3, k278_4, k278_5, k278_6, k278_7, k278_8, k278_9, k278_10, k278_11⟩ := eleven p270
      obtain ⟨k279_0, k279_1, k279_2, k279_3, k279_4, k279_5, k279_6, k279_7, k279_8, k279_9, k279_10, k279_11⟩ := eleven p272
      obtain ⟨k280_0, k280_1, k280_2, k280_3, k280_4, k280_5, k280_6, k280_7, k280_8, k280_9, k280_10, k280_11⟩ := eleven p264
      have hq1 := HS1.out.1
      have hq2 := HS1.out.2
      have hq3 := HS2.out.1
      have hq4 := HS2.out.2
      have heq1 : ∀ W, (binOp .eql 28 (cpuV e1) (.agg #[.int .u8 (c.A : Int), .int .u8 (c.X : Int), .int .u8 (c.Y : Int), .int .u8 (c.S : Int), .int .u16 702, .bool (bit7 c.A), .bool c.V, .bool c.D, .bool c.I, .bool (isZ c.A), .bool c.C])).run Tryz.prog W = .ok (.bool true) W := fun W => by rw [HE1.out]; exact cpu_eqP { c with PC := 702, N := bit7 c.A, Z := isZ c.A } W
      have heq2 : ∀ W, (binOp .eql 28 (cpuV e2) (.agg #[.int .u8 (c.A : Int), .int .u8 (c.X : Int), .int .u8 (c.Y : Int), .int .u8 (c.S : Int), .int .u16 702, .bool c.N, .bool c.V, .bool c.D, .bool c.I, .bool c.Z, .bool c.C])).run Tryz.prog W = .ok (.bool true) W := fun W => by rw [HE2.out]; exact cpu_eqP { c with PC := 702 } W
      clear p267 p268 p269 p270 p271 p272 p264
      go_wp2
      go_ret
      exact ⟨rfl, b266⟩

end Go.Proofs.YtblchdmemhhcbaaGreat
