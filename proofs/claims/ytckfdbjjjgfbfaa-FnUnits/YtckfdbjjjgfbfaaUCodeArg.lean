/-
  From a slice of bytes that came in to what the draws' contracts ask of a code.
-/
import Derived.Test.YtckfdbjjjgfbfaaURegUnits
import Derived.Test.YtckfdbjjjgfbfaaUDrawUnits
import Derived.Test.YtckfdbjjjgfbfaaUCodesLaw
import Derived.Deep.DeepCutAuto
import Derived.Test.YtckfdbjjjgfbfaaUDraw
import Derived.ProofKit
import Derived.OpenShut
namespace Go.Proofs.Ytckfdbjjjgfbfaa
set_option linter.unusedVariables false
set_option linter.unusedSimpArgs false
open Go.RowKit

set_option maxRecDepth 100000 in
set_option maxHeartbeats 4000000 in
theorem walkFnUnits (a : Option Addr) (len cap : Nat) (z : List Int) (w : World) (hc : CodeRow w.heap.size w a len z) (hl : len ≤ 1048576) :
    Calls Try.prog 3 #[.slice a len cap] w fun e w' => e = .returned (.bool true) ∧ Below w.heap.size w w' := by
  have hbig : decide ((1048576 : Int) < len) = false := by simp; omega
  go_enter Try.func3, Try.ntmps3
  go_wp2_with fail
  refine (bigCode_any _ _ _ _).mono ?_
  rintro e w' ⟨rfl, rfl⟩
  rw [hbig]
  clear hbig
  go_wp2_with fail
  refine (drawUnits_any w.heap.size a len cap z w hc (Nat.le_refl _)).mono ?_
  rintro e w1 ⟨r, m, t, st, p, i, lo, hi, rfl, hR, hi0, hi1, hO, hlo, d1⟩
  obtain ⟨t1, k1, t2, k2, t3, k3, t4, k4, rfl, rfl, rfl, rfl, _⟩ := hO.len
  obtain ⟨hr1, hr2, hr3, hr4, hr5⟩ := hR
  have zz1 := Lib.hid d1.size
  have hiw : (Lit.int .i64 i).wf = true := by simp [Lit.wf, IntKind.min, IntKind.max, IntKind.signed, IntKind.bits]; omega
  have HUA := fun (q : Int) (hq : (Lit.int .i64 q).wf = true) (W : World) (h : ShotOwn W lo hi (.slice t1 r.mem.length k1) (.slice t2 r.trace.length k2) (.slice t3 r.starts.length k3) (.slice t4 r.cpus.length k4) r) => implUnitAt_any r.cpu (.slice t1 r.mem.length k1) (.slice t4 r.cpus.length k4) t2 t3 r.trace.length k2 k3 r.starts r.jam q W (by omega) (by omega) hq h.rows.starts
  clear hc hl hlo
  have y1 : BoxN (w1.alloc (.cells #[.int .u8 (r.cpu.A : Int), .int .u8 (r.cpu.X : Int), .int .u8 (r.cpu.Y : Int), .int .u8 (r.cpu.S : Int), .int .u16 (r.cpu.PC : Int), .bool r.cpu.N, .bool r.cpu.V, .bool r.cpu.D, .bool r.cpu.I, .bool r.cpu.Z, .bool r.cpu.C, .slice t1 r.mem.length k1, .slice t2 r.trace.length k2, .slice t3 r.starts.length k3, .slice t4 r.cpus.length k4, .bool r.jam] 35)) w1.heap.size 35 #[.int .u8 (r.cpu.A : Int), .int .u8 (r.cpu.X : Int), .int .u8 (r.cpu.Y : Int), .int .u8 (r.cpu.S : Int), .int .u16 (r.cpu.PC : Int), .bool r.cpu.N, .bool r.cpu.V, .bool r.cpu.D, .bool r.cpu.I, .bool r.cpu.Z, .bool r.cpu.C, .slice t1 r.mem.length k1, .slice t2 r.trace.length k2, .slice t3 r.starts.length k3, .slice t4 r.cpus.length k4, .bool r.jam] := by
    have h := BoxN.new w1 35 #[.int .u8 (r.cpu.A : Int), .int .u8 (r.cpu.X : Int), .int .u8 (r.cpu.Y : Int), .int .u8 (r.cpu.S : Int), .int .u16 (r.cpu.PC : Int), .bool r.cpu.N, .bool r.cpu.V, .bool r.cpu.D, .bool r.cpu.I, .bool r.cpu.Z, .bool r.cpu.C, .slice t1 r.mem.length k1, .slice t2 r.trace.length k2, .slice t3 r.starts.length k3, .slice t4 r.cpus.length k4, .bool r.jam]
    simpa only [World.size_alloc] using h
  have a2 := alw w1 (.cells #[.int .u8 (r.cpu.A : Int), .int .u8 (r.cpu.X : Int), .int .u8 (r.cpu.Y : Int), .int .u8 (r.cpu.S : Int), .int .u16 (r.cpu.PC : Int), .bool r.cpu.N, .bool r.cpu.V, .bool r.cpu.D, .bool r.cpu.I, .bool r.cpu.Z, .bool r.cpu.C, .slice t1 r.mem.length k1, .slice t2 r.trace.length k2, .slice t3 r.starts.length k3, .slice t4 r.cpus.length k4, .bool r.jam] 35)
  have b3 := bstep d1 a2
  replace hO := hO.below a2
  clear a2
  have z4 : Hid ((w1.alloc (.cells #[.int .u8 (r.cpu.A : Int), .int .u8 (r.cpu.X : Int), .int .u8 (r.cpu.Y : Int), .int .u8 (r.cpu.S : Int), .int .u16 (r.cpu.PC : Int), .bool r.cpu.N, .bool r.cpu.V, .bool r.cpu.D, .bool r.cpu.I, .bool r.cpu.Z, .bool r.cpu.C, .slice t1 r.mem.length k1, .slice t2 r.trace.length k2, .slice t3 r.starts.length k3, .slice t4 r.cpus.length k4, .bool r.jam] 35)).heap.size = w1.heap.size + 1) := Lib.hid (by simp only [World.size_alloc])
  by_cases hin : 0 ≤ i ∧ i < (r.trace.length : Int)
  · obtain ⟨u, hu, hun, hS1, hS2, hS3⟩ := unit_at hr3 hr4 (hr5 (by omega)) hin.1 hin.2
    obtain ⟨X, hX⟩ : ∃ X, r.starts[u] = X := ⟨_, rfl⟩
    rw [hX] at hS1 hS3
    have hXw : 0 ≤ X ∧ X < (r.trace.length : Int) := by rw [← hX]; exact hr4 _ (List.getElem_mem hu)
    have H1 := fun W h => HUA i hiw W h
    have H2 := fun W h => HUA X (by simp [Lit.wf, IntKind.min, IntKind.max, IntKind.signed, IntKind.bits]; omega) W h
    rw [hun] at H1
    rw [hS3] at H2
    have HX := Lib.hid hX
    have HXW := Lib.hid hXw
    have HN := Lib.hid (show r.starts.length ≤ 1048576 by omega)
    have HS2 := Lib.hid hS2
    clear HUA hX hXw hun hS3 hr1 hr2 hr3 hr4 hr5 hi0 hi1 hiw hS2
    have ld5 : (Instr.loadAt 35 (.pointer (some ⟨w1.heap.size, 0, none⟩))).run Try.prog (w1.alloc (.cells #[.int .u8 (r.cpu.A : Int), .int .u8 (r.cpu.X : Int), .int .u8 (r.cpu.Y : Int), .int .u8 (r.cpu.S : Int), .int .u16 (r.cpu.PC : Int), .bool r.cpu.N, .bool r.cpu.V, .bool r.cpu.D, .bool r.cpu.I, .bool r.cpu.Z, .bool r.cpu.C, .slice t1 r.mem.length k1, .slice t2 r.trace.length k2, .slice t3 r.starts.length k3, .slice t4 r.cpus.length k4, .bool r.jam] 35)) = .ok (.agg #[.int .u8 (r.cpu.A : Int), .int .u8 (r.cpu.X : Int), .int .u8 (r.cpu.Y : Int), .int .u8 (r.cpu.S : Int), .int .u16 (r.cpu.PC : Int), .bool r.cpu.N, .bool r.cpu.V, .bool r.cpu.D, .bool r.cpu.I, .bool r.cpu.Z, .bool r.cpu.C, .slice t1 r.mem.length k1, .slice t2 r.trace.length k2, .slice t3 r.starts.length k3, .slice t4 r.cpus.length k4, .bool r.jam]) (w1.alloc (.cells #[.int .u8 (r.cpu.A : Int), .int .u8 (r.cpu.X : Int), .int .u8 (r.cpu.Y : Int), .int .u8 (r.cpu.S : Int), .int .u16 (r.cpu.PC : Int), .bool r.cpu.N, .bool r.cpu.V, .bool r.cpu.D, .bool r.cpu.I, .bool r.cpu.Z, .bool r.cpu.C, .slice t1 r.mem.length k1, .slice t2 r.trace.length k2, .slice t3 r.starts.length k3, .slice t4 r.cpus.length k4, .bool r.jam] 35)) := load_part y1 0 #[.int .u8 (r.cpu.A : Int), .int .u8 (r.cpu.X : Int), .int .u8 (r.cpu.Y : Int), .int .u8 (r.cpu.S : Int), .int .u16 (r.cpu.PC : Int), .bool r.cpu.N, .bool r.cpu.V, .bool r.cpu.D, .bool r.cpu.I, .bool r.cpu.Z, .bool r.cpu.C, .slice t1 r.mem.length k1, .slice t2 r.trace.length k2, .slice t3 r.starts.length k3, .slice t4 r.cpus.length k4, .bool r.jam] (by kernel_rfl) (by kernel_rfl) (by kernel_rfl)
    replace ld5 := Lib.hid ld5
    clear d1
    replace y1 := Lib.hid y1
    replace hO := Lib.hid hO
    replace b3 := Lib.hid b3
    go_wp2_with ((with_reducible refine wpList_load_fit ld5.out ?_ ?_; focus (exact ⟨rfl, _, rfl, rfl⟩)))
    replace y1 := y1.out
    replace hO := hO.out
    replace b3 := b3.out
    clear ld5
    refine (H1 _ hO).mono ?_
    rintro e w6 ⟨rfl, d7⟩
    replace d7 : Below (w1.alloc (.cells #[.int .u8 (r.cpu.A : Int), .int .u8 (r.cpu.X : Int), .int .u8 (r.cpu.Y : Int), .int .u8 (r.cpu.S : Int), .int .u16 (r.cpu.PC : Int), .bool r.cpu.N, .bool r.cpu.V, .bool r.cpu.D, .bool r.cpu.I, .bool r.cpu.Z, .bool r.cpu.C, .slice t1 r.mem.length k1, .slice t2 r.trace.length k2, .slice t3 r.starts.length k3, .slice t4 r.cpus.length k4, .bool r.jam] 35)).heap.size (w1.alloc (.cells #[.int .u8 (r.cpu.A : Int), .int .u8 (r.cpu.X : Int), .int .u8 (r.cpu.Y : Int), .int .u8 (r.cpu.S : Int), .int .u16 (r.cpu.PC : Int), .bool r.cpu.N, .bool r.cpu.V, .bool r.cpu.D, .bool r.cpu.I, .bool r.cpu.Z, .bool r.cpu.C, .slice t1 r.mem.length k1, .slice t2 r.trace.length k2, .slice t3 r.starts.length k3, .slice t4 r.cpus.length k4, .bool r.jam] 35)) w6 := d7
    have b8 := bstep b3 d7
    have p9 := y1.below d7
    have s10 := hO.below d7
    have z11 := Lib.hid d7.size
    clear b3 y1 hO d7
    have hrow := s10.rows.starts
    obtain ⟨g, o, rfl, hg, hcs⟩ := hrow (by omega)
    have hcu : w6.cell? ⟨g, o + u, none⟩ = some (.int .i64 X) := by
      have h := hcs u hu 0 (by decide)
      rw [HX.out] at h
      simpa [encI] using h
    have c12 := p9.cell 12 (.slice t2 r.trace.length k2) rfl
    have c13 := p9.cell 13 (.slice (some ⟨g, o, none⟩) r.starts.length k3) rfl
    have hn1 : ¬ i < 0 := by omega
    have hn2 : ¬ (r.trace.length : Int) ≤ i := by omega
    have hn3 : ¬ (u : Int) < 0 := by omega
    have hn4 : ¬ (r.starts.length : Int) ≤ (u : Int) := by omega
    have hn5 : ¬ i < X := by omega
    have HCS := Lib.hid hcs
    clear hcs hrow
    replace p9 := Lib.hid p9
    replace s10 := Lib.hid s10
    replace b8 := Lib.hid b8
    go_wp2_with fail
    replace p9 := p9.out
    replace s10 := s10.out
    replace b8 := b8.out
    clear c12 c13 hn1 hn2 hn3 hn4 hn5
    go_cut [2] from 45 to 71 (fun v W => v = .bool true ∧ Below w6.heap.size w6 W)
    case first =>
      rename_i J K' hJ hK
      by_cases hlast : u + 1 < r.starts.length
      · obtain ⟨X1, hX1⟩ : ∃ X, r.starts[u + 1] = X := ⟨_, rfl⟩
        have hiX := HS2.out hlast
        rw [hX1] at hiX
        have hc1 : w6.cell? ⟨g, o + (u + 1), none⟩ = some (.int .i64 X1) := by
          have h := HCS.out (u + 1) hlast 0 (by decide)
          rw [hX1] at h
          simpa [encI] using h
        refine unitsRegB u r.starts.length i X X1 w1.heap.size g o k3 r.cpu _ _ _ r.jam w6 p9 hg hcu hu HN.out hlast hc1 hiX (fun W h => H2 W (s10.below h)) _ rfl rfl rfl rfl _ ?_ _ (by kernel_rfl) _
        intro a' W hf ht
        exact hK _ _ (Met.intro (hJ _ _ ⟨a'.eval (.tmp 2), a'.eval (.tmp 45), a'.eval (.tmp 46), a'.eval (.tmp 47), a'.eval (.tmp 48), a'.eval (.tmp 49), a'.eval (.tmp 50), a'.eval (.tmp 51), a'.eval (.tmp 52), a'.eval (.tmp 53), a'.eval (.tmp 54), a'.eval (.tmp 55), a'.eval (.tmp 56), a'.eval (.tmp 57), a'.eval (.tmp 58), a'.eval (.tmp 59), a'.eval (.tmp 60), a'.eval (.tmp 61), a'.eval (.tmp 62), a'.eval (.tmp 63), a'.eval (.tmp 64), a'.eval (.tmp 65), a'.eval (.tmp 66), a'.eval (.tmp 67), a'.eval (.tmp 68), a'.eval (.tmp 69), a'.eval (.tmp 70), a'.eval (.tmp 71), ht, hf.eq.trans (by kernel_rfl)⟩))
      · refine unitsRegA u r.starts.length i X w1.heap.size g o k3 r.cpu _ _ _ r.jam w6 p9 hg hcu hu HN.out (by omega) (fun W h => H2 W (s10.below h)) _ rfl rfl rfl rfl _ ?_ _ (by kernel_rfl) _
        intro a' W hf ht
        exact hK _ _ (Met.intro (hJ _ _ ⟨a'.eval (.tmp 2), a'.eval (.tmp 45), a'.eval (.tmp 46), a'.eval (.tmp 47), a'.eval (.tmp 48), a'.eval (.tmp 49), a'.eval (.tmp 50), a'.eval (.tmp 51), a'.eval (.tmp 52), a'.eval (.tmp 53), a'.eval (.tmp 54), a'.eval (.tmp 55), a'.eval (.tmp 56), a'.eval (.tmp 57), a'.eval (.tmp 58), a'.eval (.tmp 59), a'.eval (.tmp 60), a'.eval (.tmp 61), a'.eval (.tmp 62), a'.eval (.tmp 63), a'.eval (.tmp 64), a'.eval (.tmp 65), a'.eval (.tmp 66), a'.eval (.tmp 67), a'.eval (.tmp 68), a'.eval (.tmp 69), a'.eval (.tmp 70), a'.eval (.tmp 71), ht, hf.eq.trans (by kernel_rfl)⟩))
    obtain ⟨rfl, d⟩ := hcut
    have bz := bstep b8 d
    go_wp2
    go_ret
    exact ⟨rfl, bz⟩
  · have hun : unitAtN r.starts r.trace.length i = -1 := if_neg (by omega)
    have H1 := fun W h => HUA i hiw W h
    rw [hun] at H1
    clear HUA hun hr1 hr2 hr3 hr4 hr5 hi1 hiw
    have ld5 : (Instr.loadAt 35 (.pointer (some ⟨w1.heap.size, 0, none⟩))).run Try.prog (w1.alloc (.cells #[.int .u8 (r.cpu.A : Int), .int .u8 (r.cpu.X : Int), .int .u8 (r.cpu.Y : Int), .int .u8 (r.cpu.S : Int), .int .u16 (r.cpu.PC : Int), .bool r.cpu.N, .bool r.cpu.V, .bool r.cpu.D, .bool r.cpu.I, .bool r.cpu.Z, .bool r.cpu.C, .slice t1 r.mem.length k1, .slice t2 r.trace.length k2, .slice t3 r.starts.length k3, .slice t4 r.cpus.length k4, .bool r.jam] 35)) = .ok (.agg #[.int .u8 (r.cpu.A : Int), .int .u8 (r.cpu.X : Int), .int .u8 (r.cpu.Y : Int), .int .u8 (r.cpu.S : Int), .int .u16 (r.cpu.PC : Int), .bool r.cpu.N, .bool r.cpu.V, .bool r.cpu.D, .bool r.cpu.I, .bool r.cpu.Z, .bool r.cpu.C, .slice t1 r.mem.length k1, .slice t2 r.trace.length k2, .slice t3 r.starts.length k3, .slice t4 r.cpus.length k4, .bool r.jam]) (w1.alloc (.cells #[.int .u8 (r.cpu.A : Int), .int .u8 (r.cpu.X : Int), .int .u8 (r.cpu.Y : Int), .int .u8 (r.cpu.S : Int), .int .u16 (r.cpu.PC : Int), .bool r.cpu.N, .bool r.cpu.V, .bool r.cpu.D, .bool r.cpu.I, .bool r.cpu.Z, .bool r.cpu.C, .slice t1 r.mem.length k1, .slice t2 r.trace.length k2, .slice t3 r.starts.length k3, .slice t4 r.cpus.length k4, .bool r.jam] 35)) := load_part y1 0 #[.int .u8 (r.cpu.A : Int), .int .u8 (r.cpu.X : Int), .int .u8 (r.cpu.Y : Int), .int .u8 (r.cpu.S : Int), .int .u16 (r.cpu.PC : Int), .bool r.cpu.N, .bool r.cpu.V, .bool r.cpu.D, .bool r.cpu.I, .bool r.cpu.Z, .bool r.cpu.C, .slice t1 r.mem.length k1, .slice t2 r.trace.length k2, .slice t3 r.starts.length k3, .slice t4 r.cpus.length k4, .bool r.jam] (by kernel_rfl) (by kernel_rfl) (by kernel_rfl)
    replace ld5 := Lib.hid ld5
    clear d1
    replace y1 := Lib.hid y1
    replace hO := Lib.hid hO
    replace b3 := Lib.hid b3
    go_wp2_with ((with_reducible refine wpList_load_fit ld5.out ?_ ?_; focus (exact ⟨rfl, _, rfl, rfl⟩)))
    replace y1 := y1.out
    replace hO := hO.out
    replace b3 := b3.out
    clear ld5
    refine (H1 _ hO).mono ?_
    rintro e w6 ⟨rfl, d7⟩
    replace d7 : Below (w1.alloc (.cells #[.int .u8 (r.cpu.A : Int), .int .u8 (r.cpu.X : Int), .int .u8 (r.cpu.Y : Int), .int .u8 (r.cpu.S : Int), .int .u16 (r.cpu.PC : Int), .bool r.cpu.N, .bool r.cpu.V, .bool r.cpu.D, .bool r.cpu.I, .bool r.cpu.Z, .bool r.cpu.C, .slice t1 r.mem.length k1, .slice t2 r.trace.length k2, .slice t3 r.starts.length k3, .slice t4 r.cpus.length k4, .bool r.jam] 35)).heap.size (w1.alloc (.cells #[.int .u8 (r.cpu.A : Int), .int .u8 (r.cpu.X : Int), .int .u8 (r.cpu.Y : Int), .int .u8 (r.cpu.S : Int), .int .u16 (r.cpu.PC : Int), .bool r.cpu.N, .bool r.cpu.V, .bool r.cpu.D, .bool r.cpu.I, .bool r.cpu.Z, .bool r.cpu.C, .slice t1 r.mem.length k1, .slice t2 r.trace.length k2, .slice t3 r.starts.length k3, .slice t4 r.cpus.length k4, .bool r.jam] 35)) w6 := d7
    have b8 := bstep b3 d7
    have p9 := y1.below d7
    have s10 := hO.below d7
    have z11 := Lib.hid d7.size
    clear b3 y1 hO d7
    have c12 := p9.cell 12 (.slice t2 r.trace.length k2) rfl
    by_cases hneg : i < 0
    · go_wp2
      go_ret
      exact ⟨rfl, b8⟩
    · have hge : (r.trace.length : Int) ≤ i := by omega
      go_wp2
      go_ret
      exact ⟨rfl, b8⟩

end Go.Proofs.Ytckfdbjjjgfbfaa

namespace Go.Proofs.Ytckfdbjjjgfbfaa
set_option linter.unusedVariables false
set_option linter.unusedSimpArgs false
open Go.ChangeShapes Go.WideShapes Go.RowKit

/-- A slice of bytes that came in: nil, or a row of cells. -/
def ByteRow (w : World) (a : Option Addr) (len cap : Nat) (zs : List Int) : Prop :=
  (a = none ∧ len = 0 ∧ cap = 0 ∧ zs = []) ∨
  ∃ x, a = some x ∧ len ≤ cap ∧ cap ≤ maxLen ∧ zs.length = cap ∧ (∀ i, i < zs.length → w.cell? (x.add i) = some (.int .u8 (zs.getD i 0))) ∧ ∀ n ∈ zs, (Lit.int .u8 n).wf = true

theorem code_of {w : World} {a : Option Addr} {len cap : Nat} {zs : List Int} (h : ByteRow w a len cap zs) (hl : len ≤ 1048576) : CodeRow w.heap.size w a len zs := by
  rcases h with ⟨rfl, rfl, rfl, rfl⟩ | ⟨x, rfl, h1, h2, h3, h4, h5⟩
  · exact ⟨by omega, fun h => by omega⟩
  · refine ⟨hl, fun h0 => ?_⟩
    obtain ⟨b, off, spot⟩ := x
    have hc := h4 0 (by omega)
    have hspot : spot = none := by simpa [Addr.add] using World.cell?_spot hc
    subst hspot
    have hadd : ∀ i, (⟨b, off, none⟩ : Addr).add i = ⟨b, off + i, none⟩ := fun i => by unfold Addr.add; split <;> simp_all
    refine ⟨b, off, rfl, World.block_lt_of_cell? w _ (by rw [hadd] at hc; exact hc), fun i hi => ?_⟩
    have hci := h4 i (by omega)
    rw [hadd] at hci
    have hmem : zs[i]?.getD 0 ∈ zs := by
      rw [List.getElem?_eq_getElem (by omega)]; exact List.getElem_mem _
    have hb := bounds_u8 (h5 _ hmem)
    exact ⟨by simpa [List.getD] using hci, hb.1, hb.2⟩

end Go.Proofs.Ytckfdbjjjgfbfaa
