/-
  The exact law of Serve, walked over any program that keeps its contract.
-/
import Derived.Test.YtblchdmemhhcbaaQSRegCpuV
import Derived.Test.YtblchdmemhhcbaaQSStepS
import Derived.Deep.RegionHeld3
import Derived.Deep.DeepCutAuto
namespace Go.Proofs.Ytblchdmemhhcbaa
set_option linter.unusedVariables false
set_option linter.unusedSimpArgs false
open Go.RowKit

set_option maxRecDepth 100000 in
set_option maxHeartbeats 8000000 in
theorem walkServe (HI : ImplServe) (c : CpuN) (hc : c.ok) (nmi : Bool) (a : Option Addr) (cap : Nat) (L : List Nat) (w : World) (hl : L.length ≤ 1048576) (hr : RowB w a L) :
    Calls Try.prog 3 #[cpuV c, ramV (.slice a L.length cap), .bool nmi] w fun e w' => e = .returned (.bool true) ∧ Below w.heap.size w w' := by
  have HSZ := fun w => szRam_any a L.length cap 1048576 (by unfold maxLen; omega) (by omega) w
  rw [if_neg (by omega)] at HSZ
  obtain ⟨q, hq⟩ : ∃ q, (1048576 : Int) - (L.length : Int) = q := ⟨_, rfl⟩
  rw [hq] at HSZ
  have hq0 : ¬ q < 0 := by omega
  clear hq
  obtain ⟨r, hrr⟩ : ∃ r, servedN c L nmi = r := ⟨_, rfl⟩
  have hlen := servedN_len c L nmi
  rw [hrr] at hlen
  have HLN : Hid (r.2.mem.length ≤ 1048576 ∧ r.2.log.length ≤ 1048576) := Lib.hid ⟨by omega, by omega⟩
  have HR3 := Lib.hid hrr
  clear hrr
  have HS := fun (g : Nat) (W : World) (hrow : RowB W (some ⟨g, 0, none⟩) L) => by have h := specServe_any c hc nmi (some ⟨g, 0, none⟩) L.length L W hrow; rw [HR3.out] at h; exact h
  have HI' := fun (g : Nat) (W : World) (hrow : RowB W (some ⟨g, 0, none⟩) L) => by have h := HI c (some ⟨g, 0, none⟩) L.length L nmi W hc hl (Nat.le_refl _) hrow; rw [HR3.out] at h; exact h
  clear hlen HR3 HI
  have b1 := (Below.refl w.heap.size w)
  have y0 : BoxN (w.alloc (.cells (cpuCells c) 26)) w.heap.size 26 (cpuCells c) := by
    have h := BoxN.new w 26 (cpuCells c)
    simpa only [World.size_alloc] using h
  have a0 := alw w (.cells (cpuCells c) 26)
  have b1 := bstep b1 a0
  have y1 : BoxN ((w.alloc (.cells (cpuCells c) 26)).alloc (.cells #[.slice a L.length cap] 29)) (w.heap.size + 1) 29 #[.slice a L.length cap] := by
    have h := BoxN.new (w.alloc (.cells (cpuCells c) 26)) 29 #[.slice a L.length cap]
    simpa only [World.size_alloc] using h
  have a1 := alw (w.alloc (.cells (cpuCells c) 26)) (.cells #[.slice a L.length cap] 29)
  have b2 := bstep b1 a1
  have y0 := y0.below a1
  clear a0 a1
  have z1 : Hid (((w.alloc (.cells (cpuCells c) 26)).alloc (.cells #[.slice a L.length cap] 29)).heap.size = w.heap.size + 2) := Lib.hid (by simp only [World.size_alloc])
  go_enter Try.func3, Try.ntmps3
  have c21 := y1.cell 0 (.slice a L.length cap) rfl
  go_wp2_with fail
  refine (HSZ _).mono ?_
  rintro e w22 ⟨rfl, d23⟩
  have b24 := bstep b2 d23
  have p25 := y0.below d23
  have p26 := y1.below d23
  have z27 := Lib.hid d23.size
  clear b2 y0 y1 c21 d23
  go_wp2_with fail
  go_cut [8, 9, 10] from 26 to 35 (fun p q u W => Took3 w22 r p q u W)
  case first =>
    rename_i J K' hJ hK
    refine serveReg5 c r L nmi a cap hl _ _ _ p25 p26 (hr.below b24) HS _ rfl rfl rfl rfl _ ?_ _ (by kernel_rfl) _
    intro a' W hf ht
    exact hK _ _ (Met.intro (hJ _ _ ⟨a'.eval (.tmp 8), a'.eval (.tmp 9), a'.eval (.tmp 10), a'.eval (.tmp 26), a'.eval (.tmp 27), a'.eval (.tmp 28), a'.eval (.tmp 29), a'.eval (.tmp 30), a'.eval (.tmp 31), a'.eval (.tmp 32), a'.eval (.tmp 33), a'.eval (.tmp 34), a'.eval (.tmp 35), ht, hf.eq.trans (by kernel_rfl)⟩))
  obtain ⟨w28, hW⟩ : ∃ W, W = wc := ⟨_, rfl⟩
  subst hW
  obtain ⟨P30, Q31, a32, cap33, a34, cap35, lo36, hi37, lo38, hi39, rfl, rfl, rfl, p40, p41, s42, s43, r44, d29⟩ := hcut
  have r44h := Lib.hid r44
  clear r44
  have p40l := Lib.hid p40.lt
  have p41l := Lib.hid p41.lt
  have b45 := bstep b24 d29
  have p46 := p25.below d29
  have p47 := p26.below d29
  have z48 := Lib.hid d29.size
  clear b24 p25 p26 d29
  have c51 := p47.cell 0 (.slice a L.length cap) rfl
  go_wp2_with fail
  refine (toRam_seg a cap L _ hl (hr.below b45)).mono ?_
  rintro e w52 ⟨g49, rfl, s50, d53⟩
  have b54 := bstep b45 d53
  have p55 := p46.below d53
  have p56 := p47.below d53
  have p57 := p40.below d53
  have p58 := p41.below d53
  have s59 := s42.below d53
  have s60 := s43.below d53
  have z61 := Lib.hid d53.size
  clear b45 p46 p47 p40 p41 s42 s43 c51 d53
  have d62 : Below w52.heap.size w52 (w52.alloc (.cells #[.slice (some ⟨g49, 0, none⟩) L.length L.length] 34)) := (Below.refl _ _).alloc (Nat.le_refl _) _
  have p63 : BoxN (w52.alloc (.cells #[.slice (some ⟨g49, 0, none⟩) L.length L.length] 34)) w52.heap.size 34 #[.slice (some ⟨g49, 0, none⟩) L.length L.length] := BoxN.new _ _ _
  have z64 : Hid ((w52.alloc (.cells #[.slice (some ⟨g49, 0, none⟩) L.length L.length] 34)).heap.size = w52.heap.size + 1) := Lib.hid (World.size_alloc _ _)
  have b65 := bstep b54 d62
  have p66 := p55.below d62
  have p67 := p56.below d62
  have p68 := p57.below d62
  have p69 := p58.below d62
  have s70 := s59.below d62
  have s71 := s60.below d62
  have s72 := s50.below d62
  have z73 := Lib.hid d62.size
  clear b54 p55 p56 p57 p58 s59 s60 s50 d62
  go_wp2_with fail
  go_cut [12, 13, 14] from 38 to 46 (fun p q u W => Took3 (w52.alloc (.cells #[.slice (some ⟨g49, 0, none⟩) L.length L.length] 34)) r p q u W)
  case first =>
    rename_i J K' hJ hK
    refine serveReg7 c r L nmi _ L.length _ _ _ p66 p63 s72.row (fun W h => HI' _ W h) _ rfl rfl rfl rfl _ ?_ _ (by kernel_rfl) _
    intro a' W hf ht
    exact hK _ _ (Met.intro (hJ _ _ ⟨a'.eval (.tmp 12), a'.eval (.tmp 13), a'.eval (.tmp 14), a'.eval (.tmp 38), a'.eval (.tmp 39), a'.eval (.tmp 40), a'.eval (.tmp 41), a'.eval (.tmp 42), a'.eval (.tmp 43), a'.eval (.tmp 44), a'.eval (.tmp 45), a'.eval (.tmp 46), ht, hf.eq.trans (by kernel_rfl)⟩))
  obtain ⟨w74, hW⟩ : ∃ W, W = wc := ⟨_, rfl⟩
  subst hW
  obtain ⟨P76, Q77, a78, cap79, a80, cap81, lo82, hi83, lo84, hi85, rfl, rfl, rfl, p86, p87, s88, s89, r90, d75⟩ := hcut
  have r90h := Lib.hid r90
  clear r90
  have p86l := Lib.hid p86.lt
  have p87l := Lib.hid p87.lt
  have b91 := bstep b65 d75
  have p92 := p66.below d75
  have p93 := p67.below d75
  have p94 := p68.below d75
  have p95 := p69.below d75
  have p96 := p63.below d75
  have s97 := s70.below d75
  have s98 := s71.below d75
  have s99 := s72.below d75
  have z100 := Lib.hid d75.size
  clear b65 p66 p67 p68 p69 p63 s70 s71 s72 d75
  have c101 := p86.cell 0 (.int .u8 (r.1.A : Int)) rfl
  have c102 := p86.cell 1 (.int .u8 (r.1.X : Int)) rfl
  have c103 := p86.cell 2 (.int .u8 (r.1.Y : Int)) rfl
  have c104 := p86.cell 3 (.int .u8 (r.1.S : Int)) rfl
  have c105 := p86.cell 4 (.int .u16 (r.1.PC : Int)) rfl
  have c106 := p86.cell 5 (.bool r.1.N) rfl
  have c107 := p86.cell 6 (.bool r.1.V) rfl
  have c108 := p86.cell 7 (.bool r.1.D) rfl
  have c109 := p86.cell 8 (.bool r.1.I) rfl
  have c110 := p86.cell 9 (.bool r.1.Z) rfl
  have c111 := p86.cell 10 (.bool r.1.C) rfl
  have c112 := p94.cell 0 (.int .u8 (r.1.A : Int)) rfl
  have c113 := p94.cell 1 (.int .u8 (r.1.X : Int)) rfl
  have c114 := p94.cell 2 (.int .u8 (r.1.Y : Int)) rfl
  have c115 := p94.cell 3 (.int .u8 (r.1.S : Int)) rfl
  have c116 := p94.cell 4 (.int .u16 (r.1.PC : Int)) rfl
  have c117 := p94.cell 5 (.bool r.1.N) rfl
  have c118 := p94.cell 6 (.bool r.1.V) rfl
  have c119 := p94.cell 7 (.bool r.1.D) rfl
  have c120 := p94.cell 8 (.bool r.1.I) rfl
  have c121 := p94.cell 9 (.bool r.1.Z) rfl
  have c122 := p94.cell 10 (.bool r.1.C) rfl
  have c123 := p87.cell 0 (.slice a78 r.2.mem.length cap79) rfl
  have c124 := p95.cell 0 (.slice a32 r.2.mem.length cap33) rfl
  go_wp2_with fail
  refine (eqCpu_any r.1 _).mono ?_
  rintro e w125 ⟨rfl, d126⟩
  have b127 := bstep b91 d126
  have p128 := p92.below d126
  have p129 := p93.below d126
  have p130 := p94.below d126
  have p131 := p95.below d126
  have p132 := p96.below d126
  have p133 := p86.below d126
  have p134 := p87.below d126
  have s135 := s97.below d126
  have s136 := s98.below d126
  have s137 := s99.below d126
  have s138 := s88.below d126
  have s139 := s89.below d126
  have z140 := Lib.hid d126.size
  clear b91 p92 p93 p94 p95 p96 p86 p87 s97 s98 s99 s88 s89 c101 c102 c103 c104 c105 c106 c107 c108 c109 c110 c111 c112 c113 c114 c115 c116 c117 c118 c119 c120 c121 c122 c123 c124 d126
  have c141 := p134.cell 0 (.slice a78 r.2.mem.length cap79) rfl
  have c142 := p131.cell 0 (.slice a32 r.2.mem.length cap33) rfl
  go_wp2_with fail
  refine (eqRam_seg _ _ _ _ r.2.mem _ HLN.out.1 s138.row s135.row).mono ?_
  rintro e w143 ⟨rfl, d144⟩
  have b145 := bstep b127 d144
  have p146 := p128.below d144
  have p147 := p129.below d144
  have p148 := p130.below d144
  have p149 := p131.below d144
  have p150 := p132.below d144
  have p151 := p133.below d144
  have p152 := p134.below d144
  have s153 := s135.below d144
  have s154 := s136.below d144
  have s155 := s137.below d144
  have s156 := s138.below d144
  have s157 := s139.below d144
  have z158 := Lib.hid d144.size
  clear b127 p128 p129 p130 p131 p132 p133 p134 s135 s136 s137 s138 s139 c141 c142 d144
  go_wp2_with fail
  refine (eqCycS_true _ _ _ _ r.2.log _ HLN.out.2 s157.row s154.row).mono ?_
  rintro e w159 ⟨rfl, d160⟩
  have b161 := bstep b145 d160
  have p162 := p146.below d160
  have p163 := p147.below d160
  have p164 := p148.below d160
  have p165 := p149.below d160
  have p166 := p150.below d160
  have p167 := p151.below d160
  have p168 := p152.below d160
  have s169 := s153.below d160
  have s170 := s154.below d160
  have s171 := s155.below d160
  have s172 := s156.below d160
  have s173 := s157.below d160
  have z174 := Lib.hid d160.size
  clear b145 p146 p147 p148 p149 p150 p151 p152 s153 s154 s155 s156 s157 d160
  have p175 := p162.drew
  have p176 := p163.drew
  have p177 := p164.drew
  have p178 := p165.drew
  have p179 := p166.drew
  have p180 := p167.drew
  have p181 := p168.drew
  have s182 := s169.drew
  have s183 := s170.drew
  have s184 := s171.drew
  have s185 := s172.drew
  have s186 := s173.drew
  have b187 := b161.drew
  have S188 : w159.drew.cell? ⟨w52.heap.size, 0, none⟩ = some (.slice (some ⟨g49, 0, none⟩) L.length L.length) ∧ w159.drew.cell? ⟨(w.heap.size + 1), 0, none⟩ = some (.slice a L.length cap) ∧ w52.heap.size < w159.drew.heap.size ∧ (w.heap.size + 1) < w159.drew.heap.size := ⟨p179.cell 0 (.slice (some ⟨g49, 0, none⟩) L.length L.length) rfl, p176.cell 0 (.slice a L.length cap) rfl, p179.lt, p176.lt⟩
  have r189 := hr.below b187
  clear p162 p163 p164 p165 p166 p167 p168 s169 s170 s171 s172 s173 b161
  go_wp2_with fail
  go_region_held3 (fun w' => w'.cell? ⟨w52.heap.size, 0, none⟩ = some (.slice (some ⟨g49, 0, none⟩) L.length L.length) ∧ w'.cell? ⟨(w.heap.size + 1), 0, none⟩ = some (.slice a L.length cap) ∧ w52.heap.size < w'.heap.size ∧ (w.heap.size + 1) < w'.heap.size)
    (((try dsimp only); (first | (with_reducible exact S188) | (with_reducible exact two_keep d191 S188) | (with_reducible exact two_keep d195 (two_keep d191 S188)))))
    (first | (go_at_call 8; refine (toRam_any a cap L _ hl r189).mono ?_; rintro e w190 ⟨g192, rfl, o193, d191⟩) | (go_at_call 11; refine (eqRam_true _ _ L.length L.length L _ (by omega) (s184.1.below d191).row.2 o193.row.2).mono ?_; rintro e w194 ⟨rfl, d195⟩))
  have z196 : Hid (w159.drew.heap.size = w159.heap.size) := Lib.hid rfl
  have b197 := bstep b187 d191
  have p198 := p175.below d191
  have p199 := p176.below d191
  have p200 := p177.below d191
  have p201 := p178.below d191
  have p202 := p179.below d191
  have p203 := p180.below d191
  have p204 := p181.below d191
  have s205 := s182.below d191
  have s206 := s183.below d191
  have s207 := s184.below d191
  have s208 := s185.below d191
  have s209 := s186.below d191
  have z210 := Lib.hid d191.size
  clear b187 p175 p176 p177 p178 p179 p180 p181 s182 s183 s184 s185 s186 S188 r189 o193 d191
  have b211 := bstep b197 d195
  have p212 := p198.below d195
  have p213 := p199.below d195
  have p214 := p200.below d195
  have p215 := p201.below d195
  have p216 := p202.below d195
  have p217 := p203.below d195
  have p218 := p204.below d195
  have s219 := s205.below d195
  have s220 := s206.below d195
  have s221 := s207.below d195
  have s222 := s208.below d195
  have s223 := s209.below d195
  have z224 := Lib.hid d195.size
  clear b197 p198 p199 p200 p201 p202 p203 p204 s205 s206 s207 s208 s209 d195
  have c226 := p216.cell 0 (.slice (some ⟨g49, 0, none⟩) L.length L.length) rfl
  go_wp2_with fail
  refine (markRam_seg _ _ 1 _ _ L _ hl (by have := HLN.out.1; omega) s221).mono ?_
  rintro e w227 ⟨rfl, s225, d228⟩
  have b229 := b211.trans (d228.below (by have := z1.out; have := z27.out; have := r44h.out; have := p40l.out; have := p41l.out; have := z48.out; have := z61.out; have := z64.out; have := z73.out; have := r90h.out; have := p86l.out; have := p87l.out; have := z100.out; have := z140.out; have := z158.out; have := z174.out; have := z196.out; have := z210.out; have := z224.out; omega) b211.size)
  have p230 := p212.span d228 (by have := z1.out; have := z27.out; have := r44h.out; have := p40l.out; have := p41l.out; have := z48.out; have := z61.out; have := z64.out; have := z73.out; have := r90h.out; have := p86l.out; have := p87l.out; have := z100.out; have := z140.out; have := z158.out; have := z174.out; have := z196.out; have := z210.out; have := z224.out; omega)
  have p231 := p213.span d228 (by have := z1.out; have := z27.out; have := r44h.out; have := p40l.out; have := p41l.out; have := z48.out; have := z61.out; have := z64.out; have := z73.out; have := r90h.out; have := p86l.out; have := p87l.out; have := z100.out; have := z140.out; have := z158.out; have := z174.out; have := z196.out; have := z210.out; have := z224.out; omega)
  have p232 := p214.span d228 (by have := z1.out; have := z27.out; have := r44h.out; have := p40l.out; have := p41l.out; have := z48.out; have := z61.out; have := z64.out; have := z73.out; have := r90h.out; have := p86l.out; have := p87l.out; have := z100.out; have := z140.out; have := z158.out; have := z174.out; have := z196.out; have := z210.out; have := z224.out; omega)
  have p233 := p215.span d228 (by have := z1.out; have := z27.out; have := r44h.out; have := p40l.out; have := p41l.out; have := z48.out; have := z61.out; have := z64.out; have := z73.out; have := r90h.out; have := p86l.out; have := p87l.out; have := z100.out; have := z140.out; have := z158.out; have := z174.out; have := z196.out; have := z210.out; have := z224.out; omega)
  have p234 := p216.span d228 (by have := z1.out; have := z27.out; have := r44h.out; have := p40l.out; have := p41l.out; have := z48.out; have := z61.out; have := z64.out; have := z73.out; have := r90h.out; have := p86l.out; have := p87l.out; have := z100.out; have := z140.out; have := z158.out; have := z174.out; have := z196.out; have := z210.out; have := z224.out; omega)
  have p235 := p217.span d228 (by have := z1.out; have := z27.out; have := r44h.out; have := p40l.out; have := p41l.out; have := z48.out; have := z61.out; have := z64.out; have := z73.out; have := r90h.out; have := p86l.out; have := p87l.out; have := z100.out; have := z140.out; have := z158.out; have := z174.out; have := z196.out; have := z210.out; have := z224.out; omega)
  have p236 := p218.span d228 (by have := z1.out; have := z27.out; have := r44h.out; have := p40l.out; have := p41l.out; have := z48.out; have := z61.out; have := z64.out; have := z73.out; have := r90h.out; have := p86l.out; have := p87l.out; have := z100.out; have := z140.out; have := z158.out; have := z174.out; have := z196.out; have := z210.out; have := z224.out; omega)
  have s237 := s219.span d228 (by have := z1.out; have := z27.out; have := r44h.out; have := p40l.out; have := p41l.out; have := z48.out; have := z61.out; have := z64.out; have := z73.out; have := r90h.out; have := p86l.out; have := p87l.out; have := z100.out; have := z140.out; have := z158.out; have := z174.out; have := z196.out; have := z210.out; have := z224.out; omega)
  have s238 := s220.span d228 (by have := z1.out; have := z27.out; have := r44h.out; have := p40l.out; have := p41l.out; have := z48.out; have := z61.out; have := z64.out; have := z73.out; have := r90h.out; have := p86l.out; have := p87l.out; have := z100.out; have := z140.out; have := z158.out; have := z174.out; have := z196.out; have := z210.out; have := z224.out; omega)
  have s239 := s222.span d228 (by have := z1.out; have := z27.out; have := r44h.out; have := p40l.out; have := p41l.out; have := z48.out; have := z61.out; have := z64.out; have := z73.out; have := r90h.out; have := p86l.out; have := p87l.out; have := z100.out; have := z140.out; have := z158.out; have := z174.out; have := z196.out; have := z210.out; have := z224.out; omega)
  have s240 := s223.span d228 (by have := z1.out; have := z27.out; have := r44h.out; have := p40l.out; have := p41l.out; have := z48.out; have := z61.out; have := z64.out; have := z73.out; have := r90h.out; have := p86l.out; have := p87l.out; have := z100.out; have := z140.out; have := z158.out; have := z174.out; have := z196.out; have := z210.out; have := z224.out; omega)
  have z241 := Lib.hid d228.size
  clear b211 p212 p213 p214 p215 p216 p217 p218 s219 s220 s222 s223 c226 d228
  have c242 := p235.cell 0 (.int .u8 (r.1.A : Int)) rfl
  have c243 := p235.cell 1 (.int .u8 (r.1.X : Int)) rfl
  have c244 := p235.cell 2 (.int .u8 (r.1.Y : Int)) rfl
  have c245 := p235.cell 3 (.int .u8 (r.1.S : Int)) rfl
  have c246 := p235.cell 4 (.int .u16 (r.1.PC : Int)) rfl
  have c247 := p235.cell 5 (.bool r.1.N) rfl
  have c248 := p235.cell 6 (.bool r.1.V) rfl
  have c249 := p235.cell 7 (.bool r.1.D) rfl
  have c250 := p235.cell 8 (.bool r.1.I) rfl
  have c251 := p235.cell 9 (.bool r.1.Z) rfl
  have c252 := p235.cell 10 (.bool r.1.C) rfl
  have c253 := p232.cell 0 (.int .u8 (r.1.A : Int)) rfl
  have c254 := p232.cell 1 (.int .u8 (r.1.X : Int)) rfl
  have c255 := p232.cell 2 (.int .u8 (r.1.Y : Int)) rfl
  have c256 := p232.cell 3 (.int .u8 (r.1.S : Int)) rfl
  have c257 := p232.cell 4 (.int .u16 (r.1.PC : Int)) rfl
  have c258 := p232.cell 5 (.bool r.1.N) rfl
  have c259 := p232.cell 6 (.bool r.1.V) rfl
  have c260 := p232.cell 7 (.bool r.1.D) rfl
  have c261 := p232.cell 8 (.bool r.1.I) rfl
  have c262 := p232.cell 9 (.bool r.1.Z) rfl
  have c263 := p232.cell 10 (.bool r.1.C) rfl
  have c264 := p236.cell 0 (.slice a78 r.2.mem.length cap79) rfl
  have c265 := p233.cell 0 (.slice a32 r.2.mem.length cap33) rfl
  go_wp2_with fail
  refine (eqCpu_any r.1 _).mono ?_
  rintro e w266 ⟨rfl, d267⟩
  have b268 := bstep b229 d267
  have p269 := p230.below d267
  have p270 := p231.below d267
  have p271 := p232.below d267
  have p272 := p233.below d267
  have p273 := p234.below d267
  have p274 := p235.below d267
  have p275 := p236.below d267
  have s276 := s237.below d267
  have s277 := s238.below d267
  have s278 := s225.below d267
  have s279 := s239.below d267
  have s280 := s240.below d267
  have z281 := Lib.hid d267.size
  clear b229 p230 p231 p232 p233 p234 p235 p236 s237 s238 s225 s239 s240 s221 c242 c243 c244 c245 c246 c247 c248 c249 c250 c251 c252 c253 c254 c255 c256 c257 c258 c259 c260 c261 c262 c263 c264 c265 d267
  have c282 := p275.cell 0 (.slice a78 r.2.mem.length cap79) rfl
  have c283 := p272.cell 0 (.slice a32 r.2.mem.length cap33) rfl
  go_wp2_with fail
  refine (eqRam_seg _ _ _ _ r.2.mem _ HLN.out.1 s279.row s276.row).mono ?_
  rintro e w284 ⟨rfl, d285⟩
  have b286 := bstep b268 d285
  have p287 := p269.below d285
  have p288 := p270.below d285
  have p289 := p271.below d285
  have p290 := p272.below d285
  have p291 := p273.below d285
  have p292 := p274.below d285
  have p293 := p275.below d285
  have s294 := s276.below d285
  have s295 := s277.below d285
  have s296 := s278.below d285
  have s297 := s279.below d285
  have s298 := s280.below d285
  have z299 := Lib.hid d285.size
  clear b268 p269 p270 p271 p272 p273 p274 p275 s276 s277 s278 s279 s280 c282 c283 d285
  go_wp2_with fail
  refine (eqCycS_true _ _ _ _ r.2.log _ HLN.out.2 s298.row s295.row).mono ?_
  rintro e w300 ⟨rfl, d301⟩
  have b302 := bstep b286 d301
  have p303 := p287.below d301
  have p304 := p288.below d301
  have p305 := p289.below d301
  have p306 := p290.below d301
  have p307 := p291.below d301
  have p308 := p292.below d301
  have p309 := p293.below d301
  have s310 := s294.below d301
  have s311 := s295.below d301
  have s312 := s296.below d301
  have s313 := s297.below d301
  have s314 := s298.below d301
  have z315 := Lib.hid d301.size
  clear b286 p287 p288 p289 p290 p291 p292 p293 s294 s295 s296 s297 s298 d301
  have c317 := p309.cell 0 (.slice a78 r.2.mem.length cap79) rfl
  go_wp2_with fail
  refine (markRam_seg _ _ 1 _ _ r.2.mem _ HLN.out.1 (by have := HLN.out.1; omega) s313).mono ?_
  rintro e w318 ⟨rfl, s316, d319⟩
  have b320 := b302.trans (d319.below (by have := z1.out; have := z27.out; have := r44h.out; have := p40l.out; have := p41l.out; have := z48.out; have := z61.out; have := z64.out; have := z73.out; have := r90h.out; have := p86l.out; have := p87l.out; have := z100.out; have := z140.out; have := z158.out; have := z174.out; have := z196.out; have := z210.out; have := z224.out; have := z241.out; have := z281.out; have := z299.out; have := z315.out; omega) b302.size)
  have p321 := p303.span d319 (by have := z1.out; have := z27.out; have := r44h.out; have := p40l.out; have := p41l.out; have := z48.out; have := z61.out; have := z64.out; have := z73.out; have := r90h.out; have := p86l.out; have := p87l.out; have := z100.out; have := z140.out; have := z158.out; have := z174.out; have := z196.out; have := z210.out; have := z224.out; have := z241.out; have := z281.out; have := z299.out; have := z315.out; omega)
  have p322 := p304.span d319 (by have := z1.out; have := z27.out; have := r44h.out; have := p40l.out; have := p41l.out; have := z48.out; have := z61.out; have := z64.out; have := z73.out; have := r90h.out; have := p86l.out; have := p87l.out; have := z100.out; have := z140.out; have := z158.out; have := z174.out; have := z196.out; have := z210.out; have := z224.out; have := z241.out; have := z281.out; have := z299.out; have := z315.out; omega)
  have p323 := p305.span d319 (by have := z1.out; have := z27.out; have := r44h.out; have := p40l.out; have := p41l.out; have := z48.out; have := z61.out; have := z64.out; have := z73.out; have := r90h.out; have := p86l.out; have := p87l.out; have := z100.out; have := z140.out; have := z158.out; have := z174.out; have := z196.out; have := z210.out; have := z224.out; have := z241.out; have := z281.out; have := z299.out; have := z315.out; omega)
  have p324 := p306.span d319 (by have := z1.out; have := z27.out; have := r44h.out; have := p40l.out; have := p41l.out; have := z48.out; have := z61.out; have := z64.out; have := z73.out; have := r90h.out; have := p86l.out; have := p87l.out; have := z100.out; have := z140.out; have := z158.out; have := z174.out; have := z196.out; have := z210.out; have := z224.out; have := z241.out; have := z281.out; have := z299.out; have := z315.out; omega)
  have p325 := p307.span d319 (by have := z1.out; have := z27.out; have := r44h.out; have := p40l.out; have := p41l.out; have := z48.out; have := z61.out; have := z64.out; have := z73.out; have := r90h.out; have := p86l.out; have := p87l.out; have := z100.out; have := z140.out; have := z158.out; have := z174.out; have := z196.out; have := z210.out; have := z224.out; have := z241.out; have := z281.out; have := z299.out; have := z315.out; omega)
  have p326 := p308.span d319 (by have := z1.out; have := z27.out; have := r44h.out; have := p40l.out; have := p41l.out; have := z48.out; have := z61.out; have := z64.out; have := z73.out; have := r90h.out; have := p86l.out; have := p87l.out; have := z100.out; have := z140.out; have := z158.out; have := z174.out; have := z196.out; have := z210.out; have := z224.out; have := z241.out; have := z281.out; have := z299.out; have := z315.out; omega)
  have p327 := p309.span d319 (by have := z1.out; have := z27.out; have := r44h.out; have := p40l.out; have := p41l.out; have := z48.out; have := z61.out; have := z64.out; have := z73.out; have := r90h.out; have := p86l.out; have := p87l.out; have := z100.out; have := z140.out; have := z158.out; have := z174.out; have := z196.out; have := z210.out; have := z224.out; have := z241.out; have := z281.out; have := z299.out; have := z315.out; omega)
  have s328 := s310.span d319 (by have := z1.out; have := z27.out; have := r44h.out; have := p40l.out; have := p41l.out; have := z48.out; have := z61.out; have := z64.out; have := z73.out; have := r90h.out; have := p86l.out; have := p87l.out; have := z100.out; have := z140.out; have := z158.out; have := z174.out; have := z196.out; have := z210.out; have := z224.out; have := z241.out; have := z281.out; have := z299.out; have := z315.out; omega)
  have s329 := s311.span d319 (by have := z1.out; have := z27.out; have := r44h.out; have := p40l.out; have := p41l.out; have := z48.out; have := z61.out; have := z64.out; have := z73.out; have := r90h.out; have := p86l.out; have := p87l.out; have := z100.out; have := z140.out; have := z158.out; have := z174.out; have := z196.out; have := z210.out; have := z224.out; have := z241.out; have := z281.out; have := z299.out; have := z315.out; omega)
  have s330 := s312.span d319 (by have := z1.out; have := z27.out; have := r44h.out; have := p40l.out; have := p41l.out; have := z48.out; have := z61.out; have := z64.out; have := z73.out; have := r90h.out; have := p86l.out; have := p87l.out; have := z100.out; have := z140.out; have := z158.out; have := z174.out; have := z196.out; have := z210.out; have := z224.out; have := z241.out; have := z281.out; have := z299.out; have := z315.out; omega)
  have s331 := s314.span d319 (by have := z1.out; have := z27.out; have := r44h.out; have := p40l.out; have := p41l.out; have := z48.out; have := z61.out; have := z64.out; have := z73.out; have := r90h.out; have := p86l.out; have := p87l.out; have := z100.out; have := z140.out; have := z158.out; have := z174.out; have := z196.out; have := z210.out; have := z224.out; have := z241.out; have := z281.out; have := z299.out; have := z315.out; omega)
  have z332 := Lib.hid d319.size
  clear b302 p303 p304 p305 p306 p307 p308 p309 s310 s311 s312 s314 c317 d319
  go_wp2_with fail
  refine (markC_seg _ _ (1 + r.2.mem.length) _ _ r.2.log _ HLN.out.2 (by have := HLN.out.1; omega) s331).mono ?_
  rintro e w334 ⟨rfl, s333, d335⟩
  have b336 := b320.trans (d335.below (by have := z1.out; have := z27.out; have := r44h.out; have := p40l.out; have := p41l.out; have := z48.out; have := z61.out; have := z64.out; have := z73.out; have := r90h.out; have := p86l.out; have := p87l.out; have := z100.out; have := z140.out; have := z158.out; have := z174.out; have := z196.out; have := z210.out; have := z224.out; have := z241.out; have := z281.out; have := z299.out; have := z315.out; have := z332.out; omega) b320.size)
  have p337 := p321.span d335 (by have := z1.out; have := z27.out; have := r44h.out; have := p40l.out; have := p41l.out; have := z48.out; have := z61.out; have := z64.out; have := z73.out; have := r90h.out; have := p86l.out; have := p87l.out; have := z100.out; have := z140.out; have := z158.out; have := z174.out; have := z196.out; have := z210.out; have := z224.out; have := z241.out; have := z281.out; have := z299.out; have := z315.out; have := z332.out; omega)
  have p338 := p322.span d335 (by have := z1.out; have := z27.out; have := r44h.out; have := p40l.out; have := p41l.out; have := z48.out; have := z61.out; have := z64.out; have := z73.out; have := r90h.out; have := p86l.out; have := p87l.out; have := z100.out; have := z140.out; have := z158.out; have := z174.out; have := z196.out; have := z210.out; have := z224.out; have := z241.out; have := z281.out; have := z299.out; have := z315.out; have := z332.out; omega)
  have p339 := p323.span d335 (by have := z1.out; have := z27.out; have := r44h.out; have := p40l.out; have := p41l.out; have := z48.out; have := z61.out; have := z64.out; have := z73.out; have := r90h.out; have := p86l.out; have := p87l.out; have := z100.out; have := z140.out; have := z158.out; have := z174.out; have := z196.out; have := z210.out; have := z224.out; have := z241.out; have := z281.out; have := z299.out; have := z315.out; have := z332.out; omega)
  have p340 := p324.span d335 (by have := z1.out; have := z27.out; have := r44h.out; have := p40l.out; have := p41l.out; have := z48.out; have := z61.out; have := z64.out; have := z73.out; have := r90h.out; have := p86l.out; have := p87l.out; have := z100.out; have := z140.out; have := z158.out; have := z174.out; have := z196.out; have := z210.out; have := z224.out; have := z241.out; have := z281.out; have := z299.out; have := z315.out; have := z332.out; omega)
  have p341 := p325.span d335 (by have := z1.out; have := z27.out; have := r44h.out; have := p40l.out; have := p41l.out; have := z48.out; have := z61.out; have := z64.out; have := z73.out; have := r90h.out; have := p86l.out; have := p87l.out; have := z100.out; have := z140.out; have := z158.out; have := z174.out; have := z196.out; have := z210.out; have := z224.out; have := z241.out; have := z281.out; have := z299.out; have := z315.out; have := z332.out; omega)
  have p342 := p326.span d335 (by have := z1.out; have := z27.out; have := r44h.out; have := p40l.out; have := p41l.out; have := z48.out; have := z61.out; have := z64.out; have := z73.out; have := r90h.out; have := p86l.out; have := p87l.out; have := z100.out; have := z140.out; have := z158.out; have := z174.out; have := z196.out; have := z210.out; have := z224.out; have := z241.out; have := z281.out; have := z299.out; have := z315.out; have := z332.out; omega)
  have p343 := p327.span d335 (by have := z1.out; have := z27.out; have := r44h.out; have := p40l.out; have := p41l.out; have := z48.out; have := z61.out; have := z64.out; have := z73.out; have := r90h.out; have := p86l.out; have := p87l.out; have := z100.out; have := z140.out; have := z158.out; have := z174.out; have := z196.out; have := z210.out; have := z224.out; have := z241.out; have := z281.out; have := z299.out; have := z315.out; have := z332.out; omega)
  have s344 := s328.span d335 (by have := z1.out; have := z27.out; have := r44h.out; have := p40l.out; have := p41l.out; have := z48.out; have := z61.out; have := z64.out; have := z73.out; have := r90h.out; have := p86l.out; have := p87l.out; have := z100.out; have := z140.out; have := z158.out; have := z174.out; have := z196.out; have := z210.out; have := z224.out; have := z241.out; have := z281.out; have := z299.out; have := z315.out; have := z332.out; omega)
  have s345 := s329.span d335 (by have := z1.out; have := z27.out; have := r44h.out; have := p40l.out; have := p41l.out; have := z48.out; have := z61.out; have := z64.out; have := z73.out; have := r90h.out; have := p86l.out; have := p87l.out; have := z100.out; have := z140.out; have := z158.out; have := z174.out; have := z196.out; have := z210.out; have := z224.out; have := z241.out; have := z281.out; have := z299.out; have := z315.out; have := z332.out; omega)
  have s346 := s330.span d335 (by have := z1.out; have := z27.out; have := r44h.out; have := p40l.out; have := p41l.out; have := z48.out; have := z61.out; have := z64.out; have := z73.out; have := r90h.out; have := p86l.out; have := p87l.out; have := z100.out; have := z140.out; have := z158.out; have := z174.out; have := z196.out; have := z210.out; have := z224.out; have := z241.out; have := z281.out; have := z299.out; have := z315.out; have := z332.out; omega)
  have s347 := s316.span d335 (by have := z1.out; have := z27.out; have := r44h.out; have := p40l.out; have := p41l.out; have := z48.out; have := z61.out; have := z64.out; have := z73.out; have := r90h.out; have := p86l.out; have := p87l.out; have := z100.out; have := z140.out; have := z158.out; have := z174.out; have := z196.out; have := z210.out; have := z224.out; have := z241.out; have := z281.out; have := z299.out; have := z315.out; have := z332.out; omega)
  have z348 := Lib.hid d335.size
  clear b320 p321 p322 p323 p324 p325 p326 p327 s328 s329 s330 s316 s313 d335
  have c349 := p343.cell 0 (.slice a78 r.2.mem.length cap79) rfl
  go_wp2_with fail
  refine (heldRam_seg _ _ 1 r.2.mem.length _ _ _ HLN.out.1 (by have := HLN.out.1; omega) s347).mono ?_
  rintro e w350 ⟨rfl, d351⟩
  have b352 := bstep b336 d351
  have p353 := p337.below d351
  have p354 := p338.below d351
  have p355 := p339.below d351
  have p356 := p340.below d351
  have p357 := p341.below d351
  have p358 := p342.below d351
  have p359 := p343.below d351
  have s360 := s344.below d351
  have s361 := s345.below d351
  have s362 := s346.below d351
  have s363 := s347.below d351
  have s364 := s333.below d351
  have z365 := Lib.hid d351.size
  clear b336 p337 p338 p339 p340 p341 p342 p343 s344 s345 s346 s347 s333 s331 c349 d351
  go_wp2_with fail
  refine (heldC_seg _ _ (1 + r.2.mem.length) r.2.log.length _ _ _ HLN.out.2 (by have := HLN.out.1; omega) s364).mono ?_
  rintro e w366 ⟨rfl, d367⟩
  have b368 := bstep b352 d367
  have p369 := p353.below d367
  have p370 := p354.below d367
  have p371 := p355.below d367
  have p372 := p356.below d367
  have p373 := p357.below d367
  have p374 := p358.below d367
  have p375 := p359.below d367
  have s376 := s360.below d367
  have s377 := s361.below d367
  have s378 := s362.below d367
  have s379 := s363.below d367
  have s380 := s364.below d367
  have z381 := Lib.hid d367.size
  clear b352 p353 p354 p355 p356 p357 p358 p359 s360 s361 s362 s363 s364 d367
  go_wp2_with fail
  go_cut [18, 19, 20] from 110 to 119 (fun p q u W => Took3 w366 r p q u W)
  case first =>
    rename_i J K' hJ hK
    refine serveReg28 c r L nmi a cap hl _ _ _ p369 p370 (hr.below b368) HI' _ rfl rfl rfl rfl _ ?_ _ (by kernel_rfl) _
    intro a' W hf ht
    exact hK _ _ (Met.intro (hJ _ _ ⟨a'.eval (.tmp 18), a'.eval (.tmp 19), a'.eval (.tmp 20), a'.eval (.tmp 110), a'.eval (.tmp 111), a'.eval (.tmp 112), a'.eval (.tmp 113), a'.eval (.tmp 114), a'.eval (.tmp 115), a'.eval (.tmp 116), a'.eval (.tmp 117), a'.eval (.tmp 118), a'.eval (.tmp 119), ht, hf.eq.trans (by kernel_rfl)⟩))
  obtain ⟨w382, hW⟩ : ∃ W, W = wc := ⟨_, rfl⟩
  subst hW
  obtain ⟨P384, Q385, a386, cap387, a388, cap389, lo390, hi391, lo392, hi393, rfl, rfl, rfl, p394, p395, s396, s397, r398, d383⟩ := hcut
  have r398h := Lib.hid r398
  clear r398
  have p394l := Lib.hid p394.lt
  have p395l := Lib.hid p395.lt
  have b399 := bstep b368 d383
  have p400 := p369.below d383
  have p401 := p370.below d383
  have p402 := p371.below d383
  have p403 := p372.below d383
  have p404 := p375.below d383
  have s405 := s376.below d383
  have s406 := s377.below d383
  have s407 := s379.below d383
  have s408 := s380.below d383
  have z409 := Lib.hid d383.size
  clear b368 p369 p370 p371 p372 p375 s376 s377 s379 s380 s378 p373 p374 d383
  have c410 := p394.cell 0 (.int .u8 (r.1.A : Int)) rfl
  have c411 := p394.cell 1 (.int .u8 (r.1.X : Int)) rfl
  have c412 := p394.cell 2 (.int .u8 (r.1.Y : Int)) rfl
  have c413 := p394.cell 3 (.int .u8 (r.1.S : Int)) rfl
  have c414 := p394.cell 4 (.int .u16 (r.1.PC : Int)) rfl
  have c415 := p394.cell 5 (.bool r.1.N) rfl
  have c416 := p394.cell 6 (.bool r.1.V) rfl
  have c417 := p394.cell 7 (.bool r.1.D) rfl
  have c418 := p394.cell 8 (.bool r.1.I) rfl
  have c419 := p394.cell 9 (.bool r.1.Z) rfl
  have c420 := p394.cell 10 (.bool r.1.C) rfl
  have c421 := p402.cell 0 (.int .u8 (r.1.A : Int)) rfl
  have c422 := p402.cell 1 (.int .u8 (r.1.X : Int)) rfl
  have c423 := p402.cell 2 (.int .u8 (r.1.Y : Int)) rfl
  have c424 := p402.cell 3 (.int .u8 (r.1.S : Int)) rfl
  have c425 := p402.cell 4 (.int .u16 (r.1.PC : Int)) rfl
  have c426 := p402.cell 5 (.bool r.1.N) rfl
  have c427 := p402.cell 6 (.bool r.1.V) rfl
  have c428 := p402.cell 7 (.bool r.1.D) rfl
  have c429 := p402.cell 8 (.bool r.1.I) rfl
  have c430 := p402.cell 9 (.bool r.1.Z) rfl
  have c431 := p402.cell 10 (.bool r.1.C) rfl
  have c432 := p395.cell 0 (.slice a386 r.2.mem.length cap387) rfl
  have c433 := p403.cell 0 (.slice a32 r.2.mem.length cap33) rfl
  go_wp2_with fail
  refine (eqCpu_any r.1 _).mono ?_
  rintro e w434 ⟨rfl, d435⟩
  have b436 := bstep b399 d435
  have p437 := p400.below d435
  have p438 := p401.below d435
  have p439 := p402.below d435
  have p440 := p403.below d435
  have p441 := p404.below d435
  have p442 := p394.below d435
  have p443 := p395.below d435
  have s444 := s405.below d435
  have s445 := s406.below d435
  have s446 := s407.below d435
  have s447 := s408.below d435
  have s448 := s396.below d435
  have s449 := s397.below d435
  have z450 := Lib.hid d435.size
  clear b399 p400 p401 p402 p403 p404 p394 p395 s405 s406 s407 s408 s396 s397 c410 c411 c412 c413 c414 c415 c416 c417 c418 c419 c420 c421 c422 c423 c424 c425 c426 c427 c428 c429 c430 c431 c432 c433 d435
  have c451 := p443.cell 0 (.slice a386 r.2.mem.length cap387) rfl
  have c452 := p440.cell 0 (.slice a32 r.2.mem.length cap33) rfl
  go_wp2_with fail
  refine (eqRam_seg _ _ _ _ r.2.mem _ HLN.out.1 s448.row s444.row).mono ?_
  rintro e w453 ⟨rfl, d454⟩
  have b455 := bstep b436 d454
  have p456 := p437.below d454
  have p457 := p438.below d454
  have p458 := p439.below d454
  have p459 := p440.below d454
  have p460 := p441.below d454
  have p461 := p442.below d454
  have p462 := p443.below d454
  have s463 := s444.below d454
  have s464 := s445.below d454
  have s465 := s446.below d454
  have s466 := s447.below d454
  have s467 := s448.below d454
  have s468 := s449.below d454
  have z469 := Lib.hid d454.size
  clear b436 p437 p438 p439 p440 p441 p442 p443 s444 s445 s446 s447 s448 s449 c451 c452 d454
  go_wp2_with fail
  refine (eqCycS_true _ _ _ _ r.2.log _ HLN.out.2 s468.row s464.row).mono ?_
  rintro e w470 ⟨rfl, d471⟩
  have b472 := bstep b455 d471
  have p473 := p456.below d471
  have p474 := p457.below d471
  have p475 := p458.below d471
  have p476 := p459.below d471
  have p477 := p460.below d471
  have p478 := p461.below d471
  have p479 := p462.below d471
  have s480 := s463.below d471
  have s481 := s464.below d471
  have s482 := s465.below d471
  have s483 := s466.below d471
  have s484 := s467.below d471
  have s485 := s468.below d471
  have z486 := Lib.hid d471.size
  clear b455 p456 p457 p458 p459 p460 p461 p462 s463 s464 s465 s466 s467 s468 d471
  have c487 := p477.cell 0 (.slice a78 r.2.mem.length cap79) rfl
  go_wp2_with fail
  refine (heldRam_seg _ _ 1 r.2.mem.length _ _ _ HLN.out.1 (by have := HLN.out.1; omega) s482).mono ?_
  rintro e w488 ⟨rfl, d489⟩
  have b490 := bstep b472 d489
  have p491 := p473.below d489
  have p492 := p474.below d489
  have p493 := p475.below d489
  have p494 := p476.below d489
  have p495 := p477.below d489
  have p496 := p478.below d489
  have p497 := p479.below d489
  have s498 := s480.below d489
  have s499 := s481.below d489
  have s500 := s482.below d489
  have s501 := s483.below d489
  have s502 := s484.below d489
  have s503 := s485.below d489
  have z504 := Lib.hid d489.size
  clear b472 p473 p474 p475 p476 p477 p478 p479 s480 s481 s482 s483 s484 s485 c487 d489
  go_wp2_with fail
  refine (heldC_seg _ _ (1 + r.2.mem.length) r.2.log.length _ _ _ HLN.out.2 (by have := HLN.out.1; omega) s501).mono ?_
  rintro e w505 ⟨rfl, d506⟩
  have b507 := bstep b490 d506
  have p508 := p491.below d506
  have p509 := p492.below d506
  have p510 := p493.below d506
  have p511 := p494.below d506
  have p512 := p495.below d506
  have p513 := p496.below d506
  have p514 := p497.below d506
  have s515 := s498.below d506
  have s516 := s499.below d506
  have s517 := s500.below d506
  have s518 := s501.below d506
  have s519 := s502.below d506
  have s520 := s503.below d506
  have z521 := Lib.hid d506.size
  clear b490 p491 p492 p493 p494 p495 p496 p497 s498 s499 s500 s501 s502 s503 d506
  go_wp2
  go_ret
  exact ⟨rfl, b507⟩

end Go.Proofs.Ytblchdmemhhcbaa
