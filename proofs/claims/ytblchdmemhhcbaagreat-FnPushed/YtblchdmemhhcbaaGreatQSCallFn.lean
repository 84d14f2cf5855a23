/-
  The law of JSR and RTS (FnCall), walked over any program whose functions keep their contracts.
-/
import Derived.Test.YtblchdmemhhcbaaGreatQSCut
import Derived.Test.YtblchdmemhhcbaaGreatQSStepRel
import Derived.Test.YtblchdmemhhcbaaGreatQSStepBack
import Derived.Test.YtblchdmemhhcbaaGreatQSServeFn
namespace Go.Proofs.YtblchdmemhhcbaaGreat
set_option linter.unusedVariables false
set_option linter.unusedSimpArgs false
open Go.RowKit

def atV (z : List Int) (len i : Nat) : Int := if i < len then z[i]?.getD 0 else (((i * 7 + len) % 256 : Nat) : Int)

set_option maxRecDepth 100000 in
theorem at_any (n₀ : Nat) (a : Option Addr) (len cap i : Nat) (hi : i ≤ 1000) (z : List Int) (w : World) (hc : CodeRow n₀ w a len z) :
    Calls Tryz.prog 19 #[.slice a len cap, .int .i64 i] w fun e w' => e = .returned (.int .i64 (atV z len i)) ∧ w = w' := by
  by_cases h : i < len
  · have e : atV z len i = z[i]?.getD 0 := if_pos h
    obtain ⟨b, off, rfl, _, h3⟩ := hc.2 (by omega)
    obtain ⟨hcell, h4, h5⟩ := h3 i h
    rw [e]
    generalize z[i]?.getD 0 = x at hcell h4 h5 ⊢
    have ii : (0 : Int) ≤ (i : Int) ∧ (i : Int) < (len : Int) := by omega
    clear h3 e hc
    go_enter Tryz.func19, Tryz.ntmps19
    go_wp2
    go_ret
    exact ⟨rfl, rfl⟩
  · have hl := hc.1
    have e : atV z len i = (((i * 7 + len) % 256 : Nat) : Int) := if_neg h
    rw [e]
    have ii : ¬ (i : Int) < (len : Int) := by omega
    have hm : ((i : Int) * 7 + (len : Int)).tmod 256 = (((i * 7 + len) % 256 : Nat) : Int) := by rw [Int.tmod_eq_emod_of_nonneg (by omega)]; omega
    have HM := Lib.hid hm
    have HE : Hid (((i : Int) * 7 + (len : Int)) % 256 = (((i * 7 + len) % 256 : Nat) : Int)) := Lib.hid (by omega)
    clear e hc hm
    go_enter Tryz.func19, Tryz.ntmps19
    go_wp2
    go_ret
    exact ⟨by first | (rw [HE.out]; rfl) | (rw [HM.out]; rfl), rfl⟩

theorem atV_bd {n₀ : Nat} {w : World} {a : Option Addr} {len : Nat} {z : List Int} (hc : CodeRow n₀ w a len z) (i : Nat) : ∃ x : Nat, x < 256 ∧ atV z len i = (x : Int) := by
  unfold atV
  split
  · rename_i h
    obtain ⟨b, off, _, _, h3⟩ := hc.2 (by omega)
    obtain ⟨_, h4, h5⟩ := h3 i h
    exact ⟨(z[i]?.getD 0).toNat, by omega, by omega⟩
  · exact ⟨(i * 7 + len) % 256, by omega, rfl⟩

end Go.Proofs.YtblchdmemhhcbaaGreat

namespace Go.Proofs.YtblchdmemhhcbaaGreat
set_option linter.unusedVariables false
set_option linter.unusedSimpArgs false
open Go.RowKit

theorem call_and' : ∀ m : Fin 100, bits .and .i64 (900 + (m.1 : Int)) 255 = (((900 + m.1) % 256 : Nat) : Int) := by decide +kernel

theorem call_and {m : Nat} (h : m < 100) : bits .and .i64 (900 + (m : Int)) 255 = (((900 + m) % 256 : Nat) : Int) := call_and' ⟨m, h⟩

theorem rowOf3 (w : World) (x y z : Nat) (hx : x < 256) (hy : y < 256) (hz : z < 256) : RowB (w.alloc (.cells #[.int .u8 (x : Int), .int .u8 (y : Int), .int .u8 (z : Int)] 5)) (some ⟨w.heap.size, 0, none⟩) [x, y, z] :=
  (OwnB.row (n := 3) (cap := 3) (ownNew w [x, y, z] (by simp) (by
    intro i hi
    match i, hi with
    | 0, _ => exact hx
    | 1, _ => exact hy
    | 2, _ => exact hz))).2

set_option maxRecDepth 100000 in
set_option maxHeartbeats 4000000 in
theorem walkFnCall (HI : ImplStep) (HF : ImplFill) (HP : ImplPoke) (a : Option Addr) (len cap : Nat) (z : List Int) (w : World) (hcode : CodeRow w.heap.size w a len z) (hl : len ≤ 1048576) :
    Calls Tryz.prog 5 #[.slice a len cap] w fun e w' => e = .returned (.bool true) ∧ Below w.heap.size w w' := by
  have hbig : decide ((1048576 : Int) < len) = false := by simp; omega
  go_enter Tryz.func5, Tryz.ntmps5
  go_wp2_with fail
  refine (bigCode_any _ _ _ _).mono ?_
  rintro e w' ⟨rfl, rfl⟩
  rw [hbig]
  clear hbig
  go_wp2_with fail
  refine (drawStep_any w.heap.size a len cap z w hcode (Nat.le_refl _)).mono ?_
  rintro e w1 ⟨c, v1, L, hc, hL, rfl, o1, d1⟩
  have s1 := SegB.of o1
  obtain ⟨a1, c1, rfl, h1c⟩ := s1.len
  have k2 : Below w1.heap.size w1 ((w1.alloc (.cells (cpuCells c) 28)).alloc (.cells #[.slice a1 L.length c1] 30)) := ((Below.refl _ _).alloc (Nat.le_refl _) _).alloc (by simp) _
  obtain ⟨p2, r2, _⟩ := two_call (w := w1) (cs := cpuCells c) (zs := #[.slice a1 L.length c1]) (t := 28) (u := 30) (Below.refl _ _)
  have s2 := s1.below k2
  have b2 := bstep d1 k2
  have z2 : ((w1.alloc (.cells (cpuCells c) 28)).alloc (.cells #[.slice a1 L.length c1] 30)).heap.size = w1.heap.size + 1 + 1 := by simp
  have zw := d1.size
  clear o1 d1 s1 k2
  have HO := fun w => specOk_any a1 L.length c1 w
  have rc := r2.cell 0 (.slice a1 L.length c1) rfl
  go_wp2_with fail
  clear rc
  generalize (w1.alloc (.cells (cpuCells c) 28)).alloc (.cells #[.slice a1 L.length c1] 30) = w2 at p2 r2 s2 b2 z2 ⊢
  refine (HO _).mono ?_
  rintro e w3 ⟨rfl, d3⟩
  have p3 := p2.below d3
  have r3 := r2.below d3
  have s3 := s2.below d3
  have b3 := bstep b2 d3
  have z3 := d3.size
  have hcode3 := hcode.kept b3
  clear p2 r2 s2 b2 d3 HO hcode
  cases hram : ramN L.length with
  | false =>
    go_wp2
    go_ret
    exact ⟨rfl, b3⟩
  | true =>
    have rc := r3.cell 0 (.slice a1 L.length c1) rfl
    by_cases hbg : L.length < 1024
    · have hb2 : decide ((L.length : Int) < 1024) = true := decide_eq_true (by omega)
      go_wp2
      go_ret
      exact ⟨rfl, b3⟩
    · have hb2 : decide ((L.length : Int) < 1024) = false := decide_eq_false (by omega)
      have h1024 : 1024 ≤ L.length := by omega
      have g4 := p3.cell 4 (.int .u16 (c.PC : Int)) rfl
      have gf := fun i => p3.frozen i
      have sp : Span w1.heap.size (w1.heap.size + 1) w3 (w3.setCell ⟨w1.heap.size, 4, none⟩ (.int .u16 700)) := Span.set _ _ _ _
      have p4 : BoxN (w3.setCell ⟨w1.heap.size, 4, none⟩ (.int .u16 700)) w1.heap.size 28 (cpuCells { c with PC := 700 }) := BoxN.set p3 4 (.int .u16 700)
      have r4 := r3.span sp (by omega)
      have s4 := s3.span sp (by omega)
      have b4 := b3.trans (sp.below (by omega) b3.size)
      have hcode4 := hcode3.kept (sp.below (by omega) b3.size)
      clear hbg hcode3
      go_wp2_with fail
      have b4z := sp.size
      clear g4 gf rc hb2 p3 r3 s3 b3 sp
      generalize w3.setCell ⟨w1.heap.size, 4, none⟩ (.int .u16 700) = w4 at p4 r4 s4 b4 hcode4 b4z ⊢
      refine (at_any w.heap.size a len cap 2 (by omega) z w4 hcode4).mono ?_
      rintro e w5 ⟨rfl, rfl⟩
      obtain ⟨x, hx, hxe⟩ := atV_bd hcode4 2
      rw [hxe]
      obtain ⟨m, hm⟩ : ∃ m, x % 100 = m := ⟨_, rfl⟩
      have hml : m < 100 := by omega
      have htm : (x : Int).tmod 100 = (m : Int) := by rw [Int.tmod_eq_emod_of_nonneg (by omega)]; omega
      have hand : bits .and .i64 (900 + (m : Int)) 255 = (((900 + m) % 256 : Nat) : Int) := call_and hml
      have hdiv : (900 + (m : Int)).tdiv 256 = 3 := by rw [Int.tdiv_eq_ediv_of_nonneg (by omega)]; omega
      obtain ⟨lo, hlo⟩ : ∃ lo, (900 + m) % 256 = lo := ⟨_, rfl⟩
      rw [hlo] at hand
      have hlol : lo < 256 := by omega
      have HLO := Lib.hid hlo
      have rc := r4.cell 0 (.slice a1 L.length c1) rfl
      clear hm hxe hlo hcode4
      have al := alw w4 (.cells #[.int .u8 32, .int .u8 (lo : Int), .int .u8 3] 5)
      have rX := rowOf3 w4 32 lo 3 (by decide) hlol (by decide)
      have s5 := s4.below al
      have p5 := p4.below al
      have r5 := r4.below al
      have b5 := bstep b4 al
      have z5 : (w4.alloc (.cells #[.int .u8 32, .int .u8 (lo : Int), .int .u8 3] 5)).heap.size = w4.heap.size + 1 := World.size_alloc _ _
      have HFL := HF a1 c1 700 L (some ⟨w4.heap.size, 0, none⟩) 3 [32, lo, 3] _ (by decide) (by omega) h1c (by simp) (by simp) s5.row rX
      obtain ⟨F, hF⟩ : ∃ F, fillL L 700 [32, lo, 3] = F := ⟨_, rfl⟩
      have hFl : F.length = L.length := by rw [← hF, fill3 L _ _ _ hram h1024]; simp
      rw [hF] at HFL
      have z4 : w3.heap.size ≤ w4.heap.size := b4z
      clear p4 r4 s4 b4 al rX
      go_wp2_with fail
      refine HFL.mono ?_
      generalize w4.alloc (.cells #[.int .u8 32, .int .u8 (lo : Int), .int .u8 3] 5) = w5 at s5 p5 r5 b5 z5 ⊢
      rintro e w6 ⟨v6, rfl, o6, d6⟩
      have s6 := SegB.of o6
      obtain ⟨a6, c6, rfl, h6c⟩ := s6.len
      have p6 := p5.below d6
      have r6 := r5.below d6
      have b6 := bstep b5 d6
      have z6 := d6.size
      have HFl := Lib.hid hFl
      clear HFL s5 p5 r5 b5 d6 o6 rc hFl
      have rc := r6.cell 0 (.slice a1 L.length c1) rfl
      have rf := fun i => r6.frozen i
      have sp : Span (w1.heap.size + 1) (w1.heap.size + 1 + 1) w6 (w6.setCell ⟨w1.heap.size + 1, 0, none⟩ (.slice a6 F.length c6)) := Span.set _ _ _ _
      have r7 := BoxN.set r6 0 (.slice a6 F.length c6)
      have p7 := p6.span sp (by omega)
      have s7 := s6.span sp (by omega)
      have b7 := b6.trans (sp.below (by omega) b6.size)
      have hz7 : (w6.setCell ⟨w1.heap.size + 1, 0, none⟩ (.slice a6 F.length c6)).heap.size = w6.heap.size := by simp
      clear r6 p6 s6 b6 sp
      go_wp2_with fail
      have HPK : Calls Tryz.prog 18 #[ramV (.slice a6 F.length c6), .int .u16 (900 + (m : Int)), .int .u8 96] (w6.setCell ⟨w1.heap.size + 1, 0, none⟩ (.slice a6 F.length c6)) fun e w' => ∃ v, e = .returned (ramV v) ∧ OwnB w' (w6.setCell ⟨w1.heap.size + 1, 0, none⟩ (.slice a6 F.length c6)).heap.size v (pokeL F (900 + m) 96) ∧ Below (w6.setCell ⟨w1.heap.size + 1, 0, none⟩ (.slice a6 F.length c6)).heap.size (w6.setCell ⟨w1.heap.size + 1, 0, none⟩ (.slice a6 F.length c6)) w' := by
        have h := HP a6 c6 (900 + m) 96 F _ (by omega) (by decide) (by have := HFl.out; omega) h6c s7.row
        rw [show ((900 + m : Nat) : Int) = 900 + (m : Int) by omega] at h
        exact h
      generalize w6.setCell ⟨w1.heap.size + 1, 0, none⟩ (.slice a6 F.length c6) = w7 at r7 p7 s7 b7 hz7 HPK ⊢
      obtain ⟨dN, M, lg, eN, M2, lg2, hs1, hs2, hd, he, hl6, hMl⟩ := call_back c hc L hram h1024 (900 + m) (by omega) (by omega)
      have hsp : pokeL (fillL L 700 [32, (900 + m) % 256, (900 + m) / 256]) (900 + m) 96 = pokeL F (900 + m) 96 := by
        rw [HLO.out, show (900 + m) / 256 = 3 by omega, hF]
      obtain ⟨P, hP⟩ : ∃ P, pokeL F (900 + m) 96 = P := ⟨_, rfl⟩
      have hPl : P.length = F.length := by rw [← hP]; unfold pokeL; rw [if_pos (by rw [HFl.out]; exact hram), List.length_set]
      rw [hsp, hP] at hs1
      rw [hP] at HPK
      have HPl := Lib.hid hPl
      have HS1 := Lib.hid hs1
      have HS2 := Lib.hid hs2
      have HL6 := Lib.hid hl6
      have HMl := Lib.hid hMl
      have HDD := Lib.hid hd
      have HEE := Lib.hid he
      have hdok : dN.ok := by rw [hd]; exact ⟨hc.1, hc.2.1, hc.2.2.1, Nat.mod_lt _ (by decide), by show 900 + m < 65536; omega⟩
      clear hs1 hs2 hl6 hMl hsp hP hPl hF rf rc s7 hd he
      refine HPK.mono ?_
      rintro e w8 ⟨v8, rfl, o8, d8⟩
      have s8 := SegB.of o8
      obtain ⟨a8, c8, rfl, h8c⟩ := s8.len
      have p8 := p7.below d8
      have r8 := r7.below d8
      have b8 := bstep b7 d8
      have z8 := d8.size
      clear HPK p7 r7 b7 d8 o8
      have rc := r8.cell 0 (.slice a6 F.length c6) rfl
      have rf := fun i => r8.frozen i
      have sp : Span (w1.heap.size + 1) (w1.heap.size + 1 + 1) w8 (w8.setCell ⟨w1.heap.size + 1, 0, none⟩ (.slice a8 P.length c8)) := Span.set _ _ _ _
      have r9 := BoxN.set r8 0 (.slice a8 P.length c8)
      have p9 := p8.span sp (by omega)
      have s9 := s8.span sp (by omega)
      have b9 := b8.trans (sp.below (by omega) b8.size)
      have hz9 : (w8.setCell ⟨w1.heap.size + 1, 0, none⟩ (.slice a8 P.length c8)).heap.size = w8.heap.size := by simp
      obtain ⟨g0, g1, g2, g3, g4, g5, g6, g7, g8, g9, g10, gf⟩ := eleven p8
      have hne1 : ¬ w1.heap.size = w1.heap.size + 1 := by omega
      clear r8 p8 s8 b8 sp
      go_wp2_with fail
      clear g0 g1 g2 g3 g4 g5 g6 g7 g8 g9 g10 gf hne1 rc rf
      generalize w8.setCell ⟨w1.heap.size + 1, 0, none⟩ (.slice a8 P.length c8) = w9 at r9 p9 s9 b9 hz9 ⊢
      have HST1 := HI { c with PC := 700 } a8 c8 P w9 ⟨hc.1, hc.2.1, hc.2.2.1, hc.2.2.2.1, by show 700 < 65536; decide⟩ (by have := HPl.out; have := HFl.out; omega) h8c s9.row
      rw [HS1.out] at HST1
      refine HST1.mono ?_
      rintro e w10 hst
      obtain ⟨a10, c10, a10', c10', lo10, hi10, lo10', hi10', rfl, sm, sc, ar, d10⟩ := hst.three
      clear hst HST1
      dsimp only at sm sc ⊢
      have hcap10 : M.length ≤ c10 := by
        obtain ⟨_, _, e3, h3⟩ := sm.len
        simp only [Value.slice.injEq] at e3
        obtain ⟨_, _, rfl⟩ := e3
        exact h3
      have k10 : Below w10.heap.size w10 ((w10.alloc (.cells (cpuCells dN) 28)).alloc (.cells #[.slice a10 M.length c10] 30)) := ((Below.refl _ _).alloc (Nat.le_refl _) _).alloc (by simp) _
      obtain ⟨y10, x10, _⟩ := two_call (w := w10) (cs := cpuCells dN) (zs := #[.slice a10 M.length c10]) (t := 28) (u := 30) (Below.refl _ _)
      have p11 := (p9.below d10).below k10
      have m11 := sm.below k10
      have b11 := bstep (bstep b9 d10) k10
      have z10 := d10.size
      have z11 : ((w10.alloc (.cells (cpuCells dN) 28)).alloc (.cells #[.slice a10 M.length c10] 30)).heap.size = w10.heap.size + 1 + 1 := by simp
      clear r9 p9 s9 b9 d10 k10 sm sc
      obtain ⟨g0, g1, g2, g3, g4, g5, g6, g7, g8, g9, g10, gf⟩ := eleven y10
      have rc := x10.cell 0 (.slice a10 M.length c10) rfl
      go_wp2_with fail
      clear g0 g1 g2 g3 g4 g5 g6 g7 g8 g9 g10 gf rc
      generalize (w10.alloc (.cells (cpuCells dN) 28)).alloc (.cells #[.slice a10 M.length c10] 30) = w11 at y10 x10 p11 m11 b11 z11 ⊢
      have HST2 := HI dN a10 c10 M w11 hdok (by have := HMl.out; omega) hcap10 m11.row
      rw [HS2.out] at HST2
      refine HST2.mono ?_
      rintro e w12 hst
      obtain ⟨a12, c12, a12', c12', lo12, hi12, lo12', hi12', rfl, sm, sc, ar, d12⟩ := hst.three
      clear hst HST2
      dsimp only at sm sc ⊢
      have k12 : Below w12.heap.size w12 ((w12.alloc (.cells (cpuCells eN) 28)).alloc (.cells #[.slice a12 M2.length c12] 30)) := ((Below.refl _ _).alloc (Nat.le_refl _) _).alloc (by simp) _
      obtain ⟨y12, x12, _⟩ := two_call (w := w12) (cs := cpuCells eN) (zs := #[.slice a12 M2.length c12]) (t := 28) (u := 30) (Below.refl _ _)
      have p13 := (p11.below d12).below k12
      have y13 := (y10.below d12).below k12
      have b13 := bstep (bstep b11 d12) k12
      have z12 := d12.size
      have z13 : ((w12.alloc (.cells (cpuCells eN) 28)).alloc (.cells #[.slice a12 M2.length c12] 30)).heap.size = w12.heap.size + 1 + 1 := by simp
      clear y10 x10 p11 m11 b11 d12 k12 sm sc
      obtain ⟨g0, g1, g2, g3, g4, g5, g6, g7, g8, g9, g10, gf⟩ := eleven p13
      obtain ⟨h0, h1, h2, h3, h4, h5, h6, h7, h8, h9, h10, hf⟩ := eleven y13
      obtain ⟨k0, k1, k2, k3, k4, k5, k6, k7, k8, k9, k10, kf⟩ := eleven y12
      have kw := alw ((w12.alloc (.cells (cpuCells eN) 28)).alloc (.cells #[.slice a12 M2.length c12] 30)) (.cells #[.int .u8 (c.A : Int), .int .u8 (c.X : Int), .int .u8 (c.Y : Int), .int .u8 (c.S : Int), .int .u16 703, .bool c.N, .bool c.V, .bool c.D, .bool c.I, .bool c.Z, .bool c.C] 28)
      have n14 : BoxN (((w12.alloc (.cells (cpuCells eN) 28)).alloc (.cells #[.slice a12 M2.length c12] 30)).alloc (.cells #[.int .u8 (c.A : Int), .int .u8 (c.X : Int), .int .u8 (c.Y : Int), .int .u8 (c.S : Int), .int .u16 703, .bool c.N, .bool c.V, .bool c.D, .bool c.I, .bool c.Z, .bool c.C] 28)) (w12.heap.size + 1 + 1) 28 #[.int .u8 (c.A : Int), .int .u8 (c.X : Int), .int .u8 (c.Y : Int), .int .u8 (c.S : Int), .int .u16 703, .bool c.N, .bool c.V, .bool c.D, .bool c.I, .bool c.Z, .bool c.C] := by
        have h := BoxN.new ((w12.alloc (.cells (cpuCells eN) 28)).alloc (.cells #[.slice a12 M2.length c12] 30)) 28 #[.int .u8 (c.A : Int), .int .u8 (c.X : Int), .int .u8 (c.Y : Int), .int .u8 (c.S : Int), .int .u16 703, .bool c.N, .bool c.V, .bool c.D, .bool c.I, .bool c.Z, .bool c.C]
        rwa [z13] at h
      have i3 := (p13.below kw).cell 3 (.int .u8 (c.S : Int)) rfl
      have i4 := (y13.below kw).cell 3 (.int .u8 (dN.S : Int)) rfl
      have i5 := (y13.below kw).cell 4 (.int .u16 (dN.PC : Int)) rfl
      have b14 := bstep b13 kw
      obtain ⟨l0, l1, l2, l3, l4, l5, l6, l7, l8, l9, l10, lf⟩ := eleven (y12.below kw)
      obtain ⟨q0, q1, q2, q3, q4, q5, q6, q7, q8, q9, q10, qf⟩ := eleven n14
      have hb1 : ((dN.PC : Int) == 900 + (m : Int)) = true := beq_iff_eq.2 (by have := congrArg CpuN.PC HDD.out; dsimp only at this; omega)
      have hb0 : dN.PC < 65536 := hdok.2.2.2.2
      have hb1' : wrap64 (dN.PC : Int) = 900 + (m : Int) := by have := congrArg CpuN.PC HDD.out; dsimp only at this; unfold wrap64; omega
      have hb2 : ((dN.S : Int) == IntKind.u8.wrap ((c.S : Int) - 2)) = true := beq_iff_eq.2 (by have h := congrArg CpuN.S HDD.out; dsimp only at h; rw [h]; have := hc.2.2.2.1; simp only [IntKind.wrap, IntKind.bits, IntKind.signed]; simp; omega)
      have hb3 : ((dN.S : Int) == ((c.S : Int) - 2) % 256) = true := beq_iff_eq.2 (by have h := congrArg CpuN.S HDD.out; dsimp only at h; rw [h]; have := hc.2.2.2.1; omega)
      have hb4 : ((lg2.length : Int) == 6) = true := beq_iff_eq.2 (by have := HL6.out; omega)
      have heq : ∀ W, (binOp .eql 28 (cpuV eN) (.agg #[.int .u8 (c.A : Int), .int .u8 (c.X : Int), .int .u8 (c.Y : Int), .int .u8 (c.S : Int), .int .u16 703, .bool c.N, .bool c.V, .bool c.D, .bool c.I, .bool c.Z, .bool c.C])).run Tryz.prog W = .ok (.bool true) W := fun W => by rw [HEE.out]; exact cpu_eqV { c with PC := 703 } W
      clear h0 h1 h2 h3 h4 h5 h6 h7 h8 h9 h10 hf k0 k1 k2 k3 k4 k5 k6 k7 k8 k9 k10 kf p13 y13 b13 y12 n14 kw
      go_wp2
      go_ret
      exact ⟨rfl, b14⟩

end Go.Proofs.YtblchdmemhhcbaaGreat
