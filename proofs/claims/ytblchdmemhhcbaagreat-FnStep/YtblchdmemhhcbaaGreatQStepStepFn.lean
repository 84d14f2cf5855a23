/-
  The law of steps (FnStep), walked over any program whose functions keep their contracts.
-/
import Derived.Test.YtblchdmemhhcbaaGreatQStepStepKjam
import Derived.Test.YtblchdmemhhcbaaGreatQStepStepPlain
import Derived.Test.YtblchdmemhhcbaaGreatQStepCodesLaw
import Derived.Deep.QuietTactic
import Derived.BigQuiet
namespace Go.Proofs.YtblchdmemhhcbaaGreat
set_option linter.unusedVariables false
set_option linter.unusedSimpArgs false
open Go.RowKit

theorem play_split : ∀ (A B : List CycN) (M X : List Nat), play M (A ++ B) = some X → ∃ M', play M A = some M' ∧ play M' B = some X
  | [], B, M, X, h => ⟨M, rfl, h⟩
  | x :: r, B, M, X, h => by
    rw [List.cons_append, play_cons] at h
    cases hs : shows M x with
    | false => rw [hs] at h; cases h
    | true =>
      rw [hs] at h
      obtain ⟨M', h1, h2⟩ := play_split r B (put1 M x) X h
      exact ⟨M', by rw [play_cons, hs]; exact h1, h2⟩

theorem play_at {A : List CycN} {M X : List Nat} (h : play M A = some X) {k : Nat} (hk : k < A.length) {N : List Nat} (hN : play M (A.take k) = some N) : shows N A[k] = true ∧ play M (A.take (k + 1)) = some (put1 N A[k]) := by
  have e : A = A.take k ++ A.drop k := (List.take_append_drop k A).symm
  rw [e] at h
  obtain ⟨N', h1, h2⟩ := play_split _ _ _ _ h
  rw [hN] at h1
  cases h1
  rw [List.drop_eq_getElem_cons hk, play_cons] at h2
  cases hs : shows N A[k] with
  | false => rw [hs] at h2; cases h2
  | true =>
    refine ⟨rfl, ?_⟩
    rw [List.take_succ_eq_append_getElem hk]
    rw [play_append _ _ _ _ hN]
    exact play_one hs

theorem cpu_neq (c : CpuN) (w : World) : (binOp .neq 28 (cpuV c) (cpuV c)).run Tryz.prog w = .ok (.bool false) w := by
  simp [go_sem]

set_option maxRecDepth 100000 in
set_option maxHeartbeats 4000000 in
theorem walkFnStep (HI : ImplStep) (HJ : ImplJams) (a : Option Addr) (len cap : Nat) (z : List Int) (w : World) (hcode : CodeRow w.heap.size w a len z) (hl : len ≤ 1048576) :
    Calls Tryz.prog 3 #[.slice a len cap] w fun e w' => e = .returned (.bool true) ∧ Below w.heap.size w w' := by
  have hbig : decide ((1048576 : Int) < len) = false := by simp; omega
  go_enter Tryz.func3, Tryz.ntmps3
  go_wp2_with fail
  refine (bigCode_any _ _ _ _).mono ?_
  rintro e w' ⟨rfl, rfl⟩
  rw [hbig]
  clear hbig
  go_wp2_with fail
  refine (drawStep_any w.heap.size a len cap z w hcode (Nat.le_refl _)).mono ?_
  rintro e w1 ⟨c, v1, L, hc, hL, rfl, o1, d1⟩
  have s1 := SegB.of o1
  obtain ⟨a1, c1, rfl, h1c⟩ := s1.len
  have k2 : Below w1.heap.size w1 ((w1.alloc (.cells (cpuCells c) 28)).alloc (.cells #[.slice a1 L.length c1] 30)) := ((Below.refl _ _).alloc (Nat.le_refl _) _).alloc (by simp) _
  obtain ⟨p2, r2, _⟩ := two_call (w := w1) (cs := cpuCells c) (zs := #[.slice a1 L.length c1]) (t := 28) (u := 30) (Below.refl _ _)
  have s2 := s1.below k2
  have b2 := bstep d1 k2
  have z2 : ((w1.alloc (.cells (cpuCells c) 28)).alloc (.cells #[.slice a1 L.length c1] 30)).heap.size = w1.heap.size + 1 + 1 := by simp
  obtain ⟨r, hr⟩ : ∃ r, stepN c L = r := ⟨_, rfl⟩
  have HC := fun W h => HI c a1 c1 L W hc (by omega) h1c h
  have HS := fun W h => specStep_any c hc a1 c1 L W h
  rw [hr] at HC HS
  have HR := Lib.hid hr
  clear o1 d1 s1 k2 hcode hr
  obtain ⟨g0, g1, g2, g3, g4, g5, g6, g7, g8, g9, g10, gf⟩ := eleven p2
  have rc := r2.cell 0 (.slice a1 L.length c1) rfl
  go_wp2_with fail
  clear g0 g1 g2 g3 g4 g5 g6 g7 g8 g9 g10 gf rc
  generalize (w1.alloc (.cells (cpuCells c) 28)).alloc (.cells #[.slice a1 L.length c1] 30) = w2 at p2 r2 s2 b2 z2 ⊢
  refine (HC _ s2.row).mono ?_
  rintro e w3 hst
  obtain ⟨a3, c3, a3', c3', lo, hi, lo2, hi2, rfl, sm, sc, ar, d3⟩ := hst.three
  clear hst
  have k4 : Below w3.heap.size w3 ((w3.alloc (.cells (cpuCells r.1) 28)).alloc (.cells #[.slice a3 r.2.mem.length c3] 30)) := ((Below.refl _ _).alloc (Nat.le_refl _) _).alloc (by simp) _
  obtain ⟨p4, r4, _⟩ := two_call (w := w3) (cs := cpuCells r.1) (zs := #[.slice a3 r.2.mem.length c3]) (t := 28) (u := 30) (Below.refl _ _)
  have z4 : ((w3.alloc (.cells (cpuCells r.1) 28)).alloc (.cells #[.slice a3 r.2.mem.length c3] 30)).heap.size = w3.heap.size + 1 + 1 := by simp
  have p24 := (p2.below d3).below k4
  have r24 := (r2.below d3).below k4
  have s4 := (s2.below d3).below k4
  have m4 := sm.below k4
  have c4 := sc.below k4
  have b4 := bstep (bstep b2 d3) k4
  have zz := d3.size
  clear p2 r2 s2 sm sc b2 d3 k4
  obtain ⟨g0, g1, g2, g3, g4, g5, g6, g7, g8, g9, g10, gf⟩ := eleven p24
  have rc := r24.cell 0 (.slice a1 L.length c1) rfl
  go_wp2_with fail
  clear g0 g1 g2 g3 g4 g5 g6 g7 g8 g9 g10 gf rc
  generalize (w3.alloc (.cells (cpuCells r.1) 28)).alloc (.cells #[.slice a3 r.2.mem.length c3] 30) = w4 at p4 r4 p24 r24 s4 m4 c4 b4 z4 ⊢
  refine (HS _ s4.row).mono ?_
  rintro e w5 hst
  obtain ⟨a5, c5, a5', c5', lo', hi', lo2', hi2', rfl, _, _, _, d5⟩ := hst.three
  clear hst
  have k6 : Below w5.heap.size w5 ((w5.alloc (.cells (cpuCells r.1) 28)).alloc (.cells #[.slice a5 r.2.mem.length c5] 30)) := ((Below.refl _ _).alloc (Nat.le_refl _) _).alloc (by simp) _
  obtain ⟨p6, _, _⟩ := two_call (w := w5) (cs := cpuCells r.1) (zs := #[.slice a5 r.2.mem.length c5]) (t := 28) (u := 30) (Below.refl _ _)
  have z6 : ((w5.alloc (.cells (cpuCells r.1) 28)).alloc (.cells #[.slice a5 r.2.mem.length c5] 30)).heap.size = w5.heap.size + 1 + 1 := by simp
  have p26 := (p24.below d5).below k6
  have r26 := (r24.below d5).below k6
  have p46 := (p4.below d5).below k6
  have r46 := (r4.below d5).below k6
  have s6 := (s4.below d5).below k6
  have m6 := (m4.below d5).below k6
  have c6 := (c4.below d5).below k6
  have b6 := bstep (bstep b4 d5) k6
  have zz5 := d5.size
  clear p24 r24 p4 r4 s4 m4 c4 b4 d5 k6
  obtain ⟨h0, h1, h2, h3, h4, h5, h6, h7, h8, h9, h10, hf⟩ := eleven p46
  obtain ⟨k0, k1, k2, k3, k4, k5, k6, k7, k8, k9, k10, kf⟩ := eleven p6
  have rc := r26.cell 0 (.slice a1 L.length c1) rfl
  have hneq := cpu_neq r.1
  go_wp2_with fail
  generalize (w5.alloc (.cells (cpuCells r.1) 28)).alloc (.cells #[.slice a5 r.2.mem.length c5] 30) = w6 at p26 r26 r46 s6 m6 c6 b6 z6 ⊢
  clear h0 h1 h2 h3 h4 h5 h6 h7 h8 h9 h10 hf k0 k1 k2 k3 k4 k5 k6 k7 k8 k9 k10 kf rc hneq p6 p46
  have HO := fun w => specOk_any a1 L.length c1 w
  cases hram : ramN L.length with
  | false =>
    rw [hram] at HO
    have er : r = (cpu0, ⟨[], []⟩) := by rw [← HR.out]; unfold stepN; rw [hram]; rfl
    subst er
    refine (HO _).mono ?_
    rintro e w7 ⟨rfl, d7⟩
    have r7 := (r26.below d7).drew
    have q7 := (r46.below d7).drew
    have b7 := (bstep b6 d7).drew
    have hS : w7.drew.cell? ⟨w1.heap.size + 1, 0, none⟩ = some (.slice a1 L.length c1) ∧ w7.drew.cell? ⟨w3.heap.size + 1, 0, none⟩ = some (.slice a3 (0 : Nat) c3) ∧ w1.heap.size + 1 < w7.drew.heap.size ∧ w3.heap.size + 1 < w7.drew.heap.size := ⟨r7.cell 0 _ rfl, q7.cell 0 _ rfl, r7.lt, q7.lt⟩
    go_wp2_with fail
    go_region_held3 (fun w' => w'.cell? ⟨w1.heap.size + 1, 0, none⟩ = some (.slice a1 L.length c1) ∧ w'.cell? ⟨w3.heap.size + 1, 0, none⟩ = some (.slice a3 (0 : Nat) c3) ∧ w1.heap.size + 1 < w'.heap.size ∧ w3.heap.size + 1 < w'.heap.size)
      (((try dsimp only); (first | (with_reducible exact hS) | (with_reducible exact two_keep d8 hS))))
      (first | (go_at_call 12; refine (HO _).mono ?_; rintro e w8 ⟨rfl, d8⟩))
    have b8 := bstep b7 d8
    clear hS
    go_wp2
    go_ret
    exact ⟨rfl, b8⟩
  | true =>
    rw [hram] at HO
    refine (HO _).mono ?_
    rintro e w7 ⟨rfl, d7⟩
    have p7 := p26.below d7
    have r7 := r26.below d7
    have q7 := r46.below d7
    have s7 := s6.below d7
    have m7 := m6.below d7
    have c7 := c6.below d7
    have b7 := bstep b6 d7
    clear p26 r26 r46 s6 m6 c6 b6 d7
    have hPC := hc.2.2.2.2
    have g4 := p7.cell 4 (.int .u16 (c.PC : Int)) rfl
    have rc := r7.cell 0 (.slice a1 L.length c1) rfl
    go_wp2_with fail
    refine (HJ a1 c1 c.PC L _ hPC (by omega) h1c s7.row).mono ?_
    rintro e w8 ⟨rfl, d8⟩
    clear g4 rc
    have p8 := p7.below d8
    have r8 := r7.below d8
    have q8 := q7.below d8
    have s8 := s7.below d8
    have m8 := m7.below d8
    have c8 := c7.below d8
    have b8 := bstep b7 d8
    clear p7 r7 q7 s7 m7 c7 b7 d8
    cases hj : jamsN L c.PC with
    | true =>
      have er : r = (c, ⟨L, []⟩) := by rw [← HR.out]; unfold stepN; rw [hram, hj]; rfl
      subst er
      have hLn : ((L.length : Int) == 0) = false := by have := ramN_pos hram; exact beq_eq_false_iff_ne.2 (by omega)
      have hS : w8.drew.cell? ⟨w1.heap.size + 1, 0, none⟩ = some (.slice a1 L.length c1) ∧ w8.drew.cell? ⟨w3.heap.size + 1, 0, none⟩ = some (.slice a3 L.length c3) ∧ w1.heap.size + 1 < w8.drew.heap.size ∧ w3.heap.size + 1 < w8.drew.heap.size := ⟨r8.cell 0 _ rfl, q8.cell 0 _ rfl, r8.lt, q8.lt⟩
      have b9 := b8.drew
      go_wp2_with fail
      go_region_held3 (fun w' => w'.cell? ⟨w1.heap.size + 1, 0, none⟩ = some (.slice a1 L.length c1) ∧ w'.cell? ⟨w3.heap.size + 1, 0, none⟩ = some (.slice a3 L.length c3) ∧ w1.heap.size + 1 < w'.heap.size ∧ w3.heap.size + 1 < w'.heap.size)
        (((try dsimp only); (first | (with_reducible exact hS) | (with_reducible exact two_keep d9 hS))))
        (first | (go_at_call 12; refine (HO _).mono ?_; rintro e w9 ⟨rfl, d9⟩))
      have b10 := bstep b9 d9
      clear hS
      go_wp2
      go_ret
      exact ⟨rfl, b10⟩
    | false =>
      have er : r = opN ⟨L, []⟩ c := by rw [← HR.out]; unfold stepN; rw [hram, hj]; rfl
      have hgood := opN_good (L := L) (by have := ramN_pos hram; omega) c
      rw [← er] at hgood
      have hln8 : r.2.log.length ≤ 8 := by have h := stepN_len c L; rw [HR.out] at h; exact h.2
      clear er HR HO
      obtain ⟨r1, mm, lg⟩ := r
      dsimp only at hgood m8 c8 q8 hln8 ⊢
      have hmany := hgood.many
      dsimp only at hmany
      have h2 : ¬ (lg.length : Int) < 2 := by omega
      have hd2 : decide ((lg.length : Int) < 2) = false := decide_eq_false h2
      have i0 : (0 : Int) < (lg.length : Int) := by omega
      obtain ⟨g, o, rfl, hg, hcells⟩ := c8.row (by omega)
      obtain ⟨f1, f2, f3⟩ := hcells 0 (by omega)
      obtain ⟨rest, hrest⟩ := hgood.first
      dsimp only at hrest
      have e0 : lg[0]'(by omega) = ⟨c.PC % 65536, (⟨L, []⟩ : BusN).get c.PC, false⟩ := by simp [hrest]
      rw [e0] at f1 f2 f3
      dsimp only at f1 f2 f3
      rw [Nat.mod_eq_of_lt hPC] at f1
      simp only [Nat.zero_mul, Nat.add_zero] at f1 f2 f3
      have g4 := p8.cell 4 (.int .u16 (c.PC : Int)) rfl
      have HG := Lib.hid hgood
      have HCL := Lib.hid hcells
      have HREST := Lib.hid hrest
      clear hgood hcells hrest e0 f2
      go_wp2_with fail
      go_quiet (fail)
      clear f1 f3 g4
      have dq : Below w8.heap.size w8 (w8.drewN nq) := below_drewN (Below.refl _ _) nq
      have r9 := r8.below dq
      have q9 := q8.below dq
      have s9 := s8.below dq
      have m9 := m8.below dq
      have c9 := c8.below dq
      have b9 := bstep b8 dq
      clear p8 r8 q8 s8 m8 c8 b8 dq HCL hg
      generalize w8.drewN nq = w9 at r9 q9 s9 m9 c9 b9 ⊢
      obtain ⟨g1, o1, rfl, hg1, _⟩ := s9.row.2 (by have := ramN_pos hram; omega)
      obtain ⟨i0', hi', hz0, hz1, hz2⟩ := info_parts infoU8
      have al : Below w9.heap.size w9 (w9.alloc (.cells #[] 5)) := (Below.refl _ _).alloc (Nat.le_refl _) _
      have hcp := (r9.below al).cell 0 (.slice (some ⟨g1, o1, none⟩) L.length c1) rfl
      have HN := Lib.hid (RowB.below s9.row al)
      have hO0 := emptyOwn (base := w9.heap.size) w9 rfl (Nat.le_refl _)
      go_wp2_with (at_builtin; refine wpList_append_own _ rfl _ _ 22 rfl w9.heap.size 5 i0' (.int .u8 0) 1 1 Tryz.underlying22 hi' hz0 hz1 hz2 rfl (by decide) _ _ _ rfl hO0 ⟨g1, o1, none⟩ L.length c1 (L.map u8V) rfl (by simp) (rowCells HN.out) (u8V_one L) ?c3 ?c4 ?c5 ?_)
      case c3 => unfold maxLen; first | omega | (simp; omega)
      case c4 => first | omega | (simp; omega)
      case c5 => first | omega | (simp; done) | (simp; omega)
      intro v' w10 hown' hgrow _
      have hO4 : OwnB w10 w9.heap.size v' L := ⟨s9.row.1, by simpa using hown'⟩
      obtain ⟨gn, cn, rfl, _⟩ := hO4.cells (by have := ramN_pos hram; omega)
      have d10 : Below w9.heap.size w9 w10 := al.grown hgrow (by simp) (fun j ej => by simp [Value.ownBlock] at ej; omega)
      have HC9 := Lib.hid c9
      have HQ9 := Lib.hid q9
      have HM9 := Lib.hid m9
      have hLp := ramN_pos hram
      have hgn := ((World.ownsRow.lt hO4.2) gn rfl).1
      have h00 : play L (lg.take 0) = some L := rfl
      have HST := Lib.hid (And.intro h00 (And.intro hO4.2 d10) : play L (lg.take 0) = some L ∧ w10.ownsRow w9.heap.size 5 1 (.slice (some ⟨gn, 0, none⟩) L.length cn) L.length (L.map u8V) ∧ Below w9.heap.size w9 w10)
      clear hown' hgrow hO4 d10 h00 hcp hO0 al r9 q9 s9 c9 HN
      go_wp2_with fail
      go_loopw [12] (fun i wr => ∃ (k : Nat) (M : List Nat), k ≤ lg.length ∧ i = .int .i64 k ∧ Hid (play L (lg.take k) = some M ∧ wr.ownsRow w9.heap.size 5 1 (.slice (some ⟨gn, 0, none⟩) L.length cn) L.length (M.map u8V) ∧ Below w9.heap.size w9 wr)) (fun i _ => lg.length - (intOf i).toNat)
      case atStart => exact ⟨0, L, Nat.zero_le _, rfl, HST⟩
      case round =>
        clear HST
        obtain ⟨k, M, hk, rfl, HI2⟩ := hrel
        by_cases hp : k < lg.length
        · obtain ⟨hplay, hO, hd⟩ := HI2.out
          clear HI2
          have hMl : M.length = L.length := by have h := hO.1; simpa using h
          obtain ⟨hshow, hnext⟩ := play_at HG.out.play hp hplay
          obtain ⟨g', o', eg, hg', hcl⟩ := (HC9.out.below hd).row (by omega)
          cases eg
          obtain ⟨g2, o2, eg2, hg9, _⟩ := HC9.out.row (by omega)
          cases eg2
          have hne1 : ¬ g = gn := by omega
          have hne2 : ¬ gn = g := by omega
          have hk1 : k + 1 ≤ lg.length := hp
          obtain ⟨f1, f2, f3⟩ := hcl k hp
          have hadr := HG.out.adr lg[k] (List.getElem_mem hp)
          obtain ⟨x, hx⟩ : ∃ x, lg[k] = x := ⟨_, rfl⟩
          rw [hx] at f1 f2 f3 hshow hnext hadr
          obtain ⟨xa, xd, xw⟩ := x
          dsimp only at f1 f2 f3 hadr
          obtain ⟨j, hj⟩ : ∃ j, xa % M.length = j := ⟨_, rfl⟩
          have hjl : j < L.length := by rw [← hj, hMl]; exact Nat.mod_lt _ (by omega)
          have htm : (xa : Int).tmod (L.length : Int) = (j : Int) := by rw [idx_rem _ _ (by omega), ← hj, hMl]
          have hz1 : ¬ L.length = 0 := by omega
          have hz2 : ¬ (L.length : Int) = 0 := by omega
          have hz3 : ((L.length : Int) == 0) = false := beq_eq_false_iff_ne.2 hz2
          have hc := World.ownsRow.cellAt hO j (by omega)
          have hf := World.ownsRow.frozenAt hO j
          have ik : (0 : Int) ≤ (k : Int) ∧ (k : Int) < (lg.length : Int) := by omega
          have ij : (0 : Int) ≤ (j : Int) ∧ (j : Int) < (L.length : Int) := by omega
          have HMl := Lib.hid hMl
          cases xw with
          | true =>
            have hp1 : put1 M ⟨xa, xd, true⟩ = M.set j xd := by unfold put1; rw [if_pos rfl, hj]
            rw [hp1] at hnext
            have s1 := World.ownsRow.stored hO j (u8V xd)
            rw [← List.map_set] at s1
            obtain ⟨y, hy⟩ : ∃ y, M.getD j 0 = y := ⟨_, rfl⟩
            have hc2 : wr.cell? ⟨gn, j, none⟩ = some (.int .u8 (y : Int)) := hc.trans (by rw [List.getElem?_map, ← hy, List.getD, List.getElem?_eq_getElem (by omega)]; rfl)
            have HNX := Lib.hid (And.intro hnext (And.intro s1.1 (Below.setCell hd (by show _ ≤ gn; omega) _)) : play L (lg.take (k + 1)) = some (M.set j xd) ∧ (wr.setCell ⟨gn, j, none⟩ (u8V xd)).ownsRow w9.heap.size 5 1 (.slice (some ⟨gn, 0, none⟩) L.length cn) L.length ((M.set j xd).map u8V) ∧ Below w9.heap.size w9 (wr.setCell ⟨gn, j, none⟩ (u8V xd)))
            clear hplay hO hd hshow hnext hcl hx hj hMl hc hp1 s1 hy
            go_wp2_with fail
            go_region
            all_goals
              go_wp2
              go_roundw
              case rel => exact ⟨k + 1, M.set j xd, hk1, by go_num, Lib.hid ⟨HNX.out.1, HNX.out.2.1, HNX.out.2.2.drew⟩⟩
              case measure => simp [intOf]; omega
          | false =>
            have hp1 : put1 M ⟨xa, xd, false⟩ = M := by unfold put1; exact if_neg Bool.false_ne_true
            have hs1 : M.getD j 0 = xd := by
              have h := hshow
              unfold shows at h
              rw [hp1] at h
              dsimp only at h
              rw [hj] at h
              exact of_decide_eq_true h
            rw [hp1] at hnext
            have hc2 : wr.cell? ⟨gn, j, none⟩ = some (.int .u8 (xd : Int)) := hc.trans (by rw [List.getElem?_map, ← hs1, List.getD, List.getElem?_eq_getElem (by omega)]; rfl)
            have HNX := Lib.hid (And.intro hnext (And.intro hO hd))
            clear hplay hO hd hshow hnext hcl hx hj hMl hc hp1 hs1
            go_wp2_with fail
            go_region
            all_goals
              go_wp2
              go_roundw
              case rel => exact ⟨k + 1, M, hk1, by go_num, Lib.hid ⟨HNX.out.1, HNX.out.2.1, HNX.out.2.2.drew⟩⟩
              case measure => simp [intOf]; omega
        · obtain rfl : k = lg.length := by omega
          obtain ⟨hplay, hO, hd⟩ := HI2.out
          clear HI2
          have hMl : M.length = L.length := by have h := hO.1; simpa using h
          rw [List.take_length, HG.out.play] at hplay
          cases hplay
          have mR := (HM9.out.below hd).row
          obtain ⟨n, hn⟩ : ∃ n, L.length = n := ⟨_, rfl⟩
          have nR : RowB wr (some ⟨gn, 0, none⟩) mm := (OwnB.row (n := mm.length) (cap := cn) (base := w9.heap.size) ⟨HM9.out.1.1, by rw [hMl]; exact hO⟩).2
          have hq := (HQ9.out.below hd).cell 0 (.slice a3 mm.length c3) rfl
          have hqz := (HQ9.out.below hd).lt
          have hk2 : ¬ (lg.length : Int) < (lg.length : Int) := by omega
          have hml : mm.length ≤ 9223372036854775806 := by rw [hMl]; omega
          have HEQ := fun W h1 h2 => sameB_true (some ⟨gn, 0, none⟩) a3 cn c3 mm W hml h1 h2
          have HD := Lib.hid hd
          have HB9 := Lib.hid b9
          have HMR := Lib.hid (And.intro nR mR)
          rw [← hMl]
          clear hO hd mR nR hn hMl
          go_wp2_with fail
          refine (HEQ _ HMR.out.1 HMR.out.2).mono ?_
          rintro e w11 ⟨rfl, k11, rfl⟩
          have hend := below_drewN (bstep HB9.out HD.out) k11
          go_wp2
          go_ret
          exact ⟨rfl, hend⟩

end Go.Proofs.YtblchdmemhhcbaaGreat
