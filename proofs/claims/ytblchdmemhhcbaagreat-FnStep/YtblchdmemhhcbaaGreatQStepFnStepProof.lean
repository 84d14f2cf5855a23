/-
  For every code the law FnStep returns true: what a step writes is the memory behind it, what it reads was there, and its first cycle is at PC. There are no conditions.
-/
import Derived.Test.YtblchdmemhhcbaaGreatQStepPlayEq
import Derived.Test.YtblchdmemhhcbaaGreatQStepPlayV
import Derived.Test.YtblchdmemhhcbaaGreatQStepStepKjam
import Derived.Test.YtblchdmemhhcbaaGreatQStepPlayX
import Derived.Test.YtblchdmemhhcbaaGreatQStepPlayT
import Derived.Test.YtblchdmemhhcbaaGreatQStepOpJ
import Derived.Test.YtblchdmemhhcbaaGreatQStepCut
import Derived.ProofKit
import Derived.OpenShut
import Derived.Test.YtblchdmemhhcbaaGreatRows
import Derived.WalkKit
import Derived.ShutString
import Derived.ChangeOld
import Derived.Below
import Derived.Test.YtblchdmemhhcbaaGreatQStepStepFn
namespace Go.Proofs.YtblchdmemhhcbaaGreat
set_option linter.unusedVariables false
set_option linter.unusedSimpArgs false
open Go.RowKit

theorem op_k7k {b : Nat} (hb : b < 256) : (opKind b = 7 → opId b = 28) ∧ (opKind b = 8 → opId b = 30) ∧ (opKind b = 9 → opId b = 29) ∧ (opKind b = 10 → opId b = 27) ∧ (opKind b = 6 → opId b = 32) :=
  byte_all (p := fun b => (opKind b = 7 → opId b = 28) ∧ (opKind b = 8 → opId b = 30) ∧ (opKind b = 9 → opId b = 29) ∧ (opKind b = 10 → opId b = 27) ∧ (opKind b = 6 → opId b = 32)) (by decide +kernel) hb

theorem op_sz {b : Nat} (hb : b < 256) : opKind b ≠ 0 → opSize b = sizeOfM (opMode b) :=
  byte_all (p := fun b => opKind b ≠ 0 → opSize b = sizeOfM (opMode b)) (by decide +kernel) hb

theorem opB_go {b : BusN} {c : CpuN} {n : Nat} {l : List UInt8} (h1 : opKind n ≠ 1) (h2 : opKind n ≠ 2) (h3 : opKind n ≠ 3) (h4 : opKind n ≠ 4) (h5 : opKind n ≠ 5) (hl : (opName n).toList = l) : opB b c n = goN b c l (opMode n) := by
  unfold opB
  rw [if_neg h1, if_neg h5, if_neg (by omega), hl]

theorem kindP_eq (c : CpuN) (hc : c.ok) (b : BusN) (hb : ∀ a, b.get a < 256) (n : Nat) (hn : n < 256) (h0 : opKind n ≠ 0) : (⟨{ c with PC := (c.PC + 1) % 65536 }, b⟩ : St).kindP n = ⟨(opB b c n).1, (opB b c n).2⟩ := by
  obtain ⟨o7, o8, o9, o10, o6⟩ := op_k7k hn
  rcases op_kall hn with h | h | h | h | h | h | h | h | h | h | h | h | h
  · exact absurd h h0
  · unfold St.kindP opB
    simp only [h, if_true]
    rw [impLq]
    exact St.ext' rfl (rd_of _ (by omega))
  · obtain ⟨_, hm⟩ := op_k2 hn h
    have e : opB b c n = dataN b c n := by unfold opB; rw [if_neg (by omega), if_neg (by omega), if_pos (by omega)]
    rw [e]
    exact data_eq c b hb n (placeOr hm) (op_sz hn h0) (.inl h)
  · obtain ⟨_, hm⟩ := op_k3 hn h
    have hne : opMode n ≠ 2 := by have := place_or hm; omega
    have e : opB b c n = dataN b c n := by unfold opB; rw [if_neg (by omega), if_neg (by omega), if_pos (by omega)]
    rw [e]
    exact data_eq c b hb n (placeOr (.inr hm)) (op_sz hn h0) (.inr (.inl ⟨h, hne⟩))
  · obtain ⟨_, hm⟩ := op_k4 hn h
    have hne : opMode n ≠ 2 := by have := place_or hm; omega
    have e : opB b c n = dataN b c n := by unfold opB; rw [if_neg (by omega), if_neg (by omega), if_pos (by omega)]
    rw [e]
    exact data_eq c b hb n (placeOr (.inr hm)) (op_sz hn h0) (.inr (.inr ⟨h, hne⟩))
  · have e : opB b c n = branchN b c (opName n).toList := by unfold opB; rw [if_neg (by omega), if_pos h]
    rw [e, ← branch_eq c hc b]
    unfold St.kindP
    simp only [h, Int.reduceEq, if_true, if_false, reduceIte]
  · have e : (opName n).toList = [74, 77, 80] := by unfold opName; rw [o6 h]; rw [ByteArray.toList_eq]; rfl
    rw [opB_go (by omega) (by omega) (by omega) (by omega) (by omega) e]
    unfold St.kindP
    simp only [h, Int.reduceEq, if_true, if_false, reduceIte]
    rcases op_k6k hn h with hm | hm <;> rw [hm]
    · exact eq_JMPa c hc b hb
    · exact eq_JMPi c hc b hb
  · have e : (opName n).toList = [74, 83, 82] := by unfold opName; rw [o7 h]; rw [ByteArray.toList_eq]; rfl
    rw [opB_go (by omega) (by omega) (by omega) (by omega) (by omega) e]
    unfold St.kindP
    simp only [h, Int.reduceEq, if_true, if_false, reduceIte]
    exact eq_JSR c hc b hb _
  · have e : (opName n).toList = [82, 84, 83] := by unfold opName; rw [o8 h]; rw [ByteArray.toList_eq]; rfl
    rw [opB_go (by omega) (by omega) (by omega) (by omega) (by omega) e]
    unfold St.kindP
    simp only [h, Int.reduceEq, if_true, if_false, reduceIte]
    exact eq_RTS c hc b hb _
  · have e : (opName n).toList = [82, 84, 73] := by unfold opName; rw [o9 h]; rw [ByteArray.toList_eq]; rfl
    rw [opB_go (by omega) (by omega) (by omega) (by omega) (by omega) e]
    unfold St.kindP
    simp only [h, Int.reduceEq, if_true, if_false, reduceIte]
    exact eq_RTI c hc b hb _
  · have e : (opName n).toList = [66, 82, 75] := by unfold opName; rw [o10 h]; rw [ByteArray.toList_eq]; rfl
    rw [opB_go (by omega) (by omega) (by omega) (by omega) (by omega) e]
    unfold St.kindP
    simp only [h, Int.reduceEq, if_true, if_false, reduceIte]
    exact eq_BRK c hc b hb _
  · rcases op_k11 hn h with hi | hi
    · have e : (opName n).toList = [80, 72, 65] := by unfold opName; rw [hi]; rw [ByteArray.toList_eq]; rfl
      rw [opB_go (by omega) (by omega) (by omega) (by omega) (by omega) e]
      unfold St.kindP
      simp only [h, Int.reduceEq, if_true, if_false, reduceIte, e]
      exact eq_PHA c hc b hb _
    · have e : (opName n).toList = [80, 72, 80] := by unfold opName; rw [hi]; rw [ByteArray.toList_eq]; rfl
      rw [opB_go (by omega) (by omega) (by omega) (by omega) (by omega) e]
      unfold St.kindP
      simp only [h, Int.reduceEq, if_true, if_false, reduceIte, e]
      exact eq_PHP c hc b hb _
  · rcases op_k12 hn h with hi | hi
    · have e : (opName n).toList = [80, 76, 65] := by unfold opName; rw [hi]; rw [ByteArray.toList_eq]; rfl
      rw [opB_go (by omega) (by omega) (by omega) (by omega) (by omega) e]
      unfold St.kindP
      simp only [h, Int.reduceEq, if_true, if_false, reduceIte, e]
      exact eq_PLA c hc b hb _
    · have e : (opName n).toList = [80, 76, 80] := by unfold opName; rw [hi]; rw [ByteArray.toList_eq]; rfl
      rw [opB_go (by omega) (by omega) (by omega) (by omega) (by omega) e]
      unfold St.kindP
      simp only [h, Int.reduceEq, if_true, if_false, reduceIte, e]
      exact eq_PLP c hc b hb _

theorem stepP_eq (c : CpuN) (hc : c.ok) (b : BusN) (hb : ∀ a, b.get a < 256) (n : Nat) (hn : b.get c.PC = n) (h0 : opKind n ≠ 0) : (⟨c, b⟩ : St).stepP n = ⟨(opN b c).1, (opN b c).2⟩ := by
  unfold St.stepP
  rw [if_neg h0, opN_eq, hn]
  exact kindP_eq c hc (b.rd c.PC) hb n (by rw [← hn]; exact hb _) h0

end Go.Proofs.YtblchdmemhhcbaaGreat

namespace Go.Proofs.YtblchdmemhhcbaaGreat
set_option linter.unusedVariables false
set_option linter.unusedSimpArgs false
open Go.RowKit

theorem implStep : ImplStep := by
  intro c a cap L w hc _ hcap hr
  cases h : ramN L.length with
  | false =>
    have e : stepN c L = (cpu0, ⟨[], []⟩) := by unfold stepN; rw [h]; rfl
    rw [e]
    exact implStep_no c hc a cap L h w hr hcap
  | true =>
    have hp : (⟨L, []⟩ : BusN).get c.PC = peekL L c.PC := get_peek h hc.2.2.2.2
    have hb : ∀ x, (⟨L, []⟩ : BusN).get x < 256 := fun x => hr.byte' _
    by_cases k0 : opKind (peekL L c.PC) = 0
    · have e : stepN c L = (c, ⟨L, []⟩) := by
        unfold stepN
        rw [h, if_pos rfl, if_pos]
        unfold jamsN
        rw [h, Bool.true_and]
        exact decide_eq_true ((op_k0 (peekL_lt hr c.PC)).1 k0)
      rw [e]
      exact implStep_yes c hc a cap L h w hr hcap (t := ⟨c, ⟨L, []⟩⟩) (by unfold St.stepP; rw [if_pos k0])
    · have e : stepN c L = opN ⟨L, []⟩ c := by
        unfold stepN
        rw [h, if_pos rfl, if_neg]
        unfold jamsN
        rw [h, Bool.true_and]
        simp only [decide_eq_true_eq]
        exact fun hh => k0 ((op_k0 (peekL_lt hr c.PC)).2 hh)
      rw [e]
      exact implStep_yes c hc a cap L h w hr hcap (stepP_eq c hc ⟨L, []⟩ hb _ hp k0)

end Go.Proofs.YtblchdmemhhcbaaGreat

namespace Go.Proofs.YtblchdmemhhcbaaGreat
set_option linter.unusedVariables false
set_option linter.unusedSimpArgs false
open Go.RowKit

theorem jamOp (b : Nat) (hb : b < 256) (w : World) :
    Calls Tryz.prog 37 #[.int .u8 b] w fun e w' => e = .returned (.agg #[.string (opName b), .int .i64 (opMode b), .int .i64 (opSize b), .int .i64 (opKind b)]) ∧ Below w.heap.size w w' := implOp_any b hb w

theorem implJams : ImplJams := by
  intro a cap pc L w hpc _ _ hr
  have HO := fun w => implOk_any a L.length cap w
  cases h : ramN L.length with
  | false =>
    have e : jamsN L pc = false := by unfold jamsN; rw [h]; rfl
    rw [e]
    rw [h] at HO
    clear h e
    go_enter Tryz.func13, Tryz.ntmps13
    go_wp2_with fail
    refine (HO _).mono ?_
    rintro e w1 ⟨rfl, d1⟩
    have b1 := bstep ((Below.refl _ w).alloc (Nat.le_refl _) _) d1
    go_wp2
    go_ret
    exact ⟨rfl, b1⟩
  | true =>
    obtain ⟨x, hx⟩ : ∃ x, peekL L pc = x := ⟨_, rfl⟩
    have hxb : x < 256 := by rw [← hx]; exact peekL_lt hr pc
    have e : jamsN L pc = (opKind x == 0) := by
      unfold jamsN
      rw [h, hx, Bool.true_and]
      have := op_k0 hxb
      rw [Bool.eq_iff_iff]
      simp [this]
    rw [e]
    rw [h] at HO
    obtain ⟨kd, hk⟩ : ∃ r_, opKind x = r_ := ⟨_, rfl⟩
    have HOP := fun w => jamOp x hxb w
    rw [hk] at HOP ⊢
    have hf : ∀ (p q r s : Value) (w : World), (Instr.field 70 (.agg #[p, q, r, s]) 3).run Tryz.prog w = .ok s w := fun _ _ _ _ _ => by kernel_rfl
    have HX := Lib.hid hx
    have HR := Lib.hid hr
    clear h e hx hr hk
    go_enter Tryz.func13, Tryz.ntmps13
    go_wp2_with fail
    refine (HO _).mono ?_
    rintro e w1 ⟨rfl, d1⟩
    have q1 := (one_call d1).1
    have b1 := (one_call d1).2
    have c1 : w1.cell? ⟨w.heap.size, 0, none⟩ = some (.slice a L.length cap) := q1.cell 0 _ rfl
    clear d1
    go_wp2_with fail
    refine (implPeek_any a cap pc L hpc _ (RowB.below HR.out b1)).mono ?_
    rintro e w2 ⟨rfl, d2⟩
    have b2 := bstep b1 d2
    clear b1 d2 c1 q1
    rw [HX.out]
    go_wp2_with fail
    refine (HOP _).mono ?_
    rintro e w3 ⟨rfl, d3⟩
    have b3 := bstep b2 d3
    clear b2 d3
    go_wp2
    go_ret
    exact ⟨rfl, b3⟩

end Go.Proofs.YtblchdmemhhcbaaGreat

namespace Go.Proofs.YtblchdmemhhcbaaGreat
set_option linter.unusedVariables false
set_option linter.unusedSimpArgs false
open Go.ChangeShapes Go.WideShapes Go.RowKit

/-- A slice of bytes that came in: nil, or a row of cells. -/
def ByteRow (w : World) (a : Option Addr) (len cap : Nat) (zs : List Int) : Prop :=
  (a = none ∧ len = 0 ∧ cap = 0 ∧ zs = []) ∨
  ∃ x, a = some x ∧ len ≤ cap ∧ cap ≤ maxLen ∧ zs.length = cap ∧ (∀ i, i < zs.length → w.cell? (x.add i) = some (.int .u8 (zs.getD i 0))) ∧ ∀ n ∈ zs, (Lit.int .u8 n).wf = true

theorem code_of {w : World} {a : Option Addr} {len cap : Nat} {zs : List Int} (h : ByteRow w a len cap zs) (hl : len ≤ 1048576) : CodeRow w.heap.size w a len zs := by
  rcases h with ⟨rfl, rfl, rfl, rfl⟩ | ⟨x, rfl, h1, h2, h3, h4, h5⟩
  · exact ⟨by omega, fun h => by omega⟩
  · refine ⟨hl, fun h0 => ?_⟩
    obtain ⟨b, off, spot⟩ := x
    have hc := h4 0 (by omega)
    have hspot : spot = none := by simpa [Addr.add] using World.cell?_spot hc
    subst hspot
    have hadd : ∀ i, (⟨b, off, none⟩ : Addr).add i = ⟨b, off + i, none⟩ := fun i => by unfold Addr.add; split <;> simp_all
    refine ⟨b, off, rfl, World.block_lt_of_cell? w _ (by rw [hadd] at hc; exact hc), fun i hi => ?_⟩
    have hci := h4 i (by omega)
    rw [hadd] at hci
    have hmem : zs[i]?.getD 0 ∈ zs := by
      rw [List.getElem?_eq_getElem (by omega)]; exact List.getElem_mem _
    have hb := bounds_u8 (h5 _ hmem)
    exact ⟨by simpa [List.getD] using hci, hb.1, hb.2⟩

end Go.Proofs.YtblchdmemhhcbaaGreat

namespace Go.Proofs.YtblchdmemhhcbaaGreat.fnStep
open Go.ChangeShapes Go.WideShapes Go.ChangeAt Go.RowKit
open Go.ChangeMaps (open_string shut_string)
set_option linter.unusedVariables false

theorem own : ownKnob Tryz.prog.godebug = none := by kernel_rfl
theorem laidOut : laidOutB Tryz.prog = true := by kernel_rfl

/-- A slice of integers that came in: nil, or a row of cells. -/
def IsRow (k : IntKind) (w : World) (a : Option Addr) (len cap : Nat) (zs : List Int) : Prop :=
  (a = none ∧ len = 0 ∧ cap = 0 ∧ zs = []) ∨
  ∃ x, a = some x ∧ len ≤ cap ∧ cap ≤ maxLen ∧ zs.length = cap ∧ (∀ i, i < zs.length → w.cell? (x.add i) = some (.int k (zs.getD i 0))) ∧ ∀ n ∈ zs, (Lit.int k n).wf = true

set_option maxRecDepth 100000 in
theorem walk_big (a : Option Addr) (len cap : Nat) (w : World) (h : 1048576 < len) :
    Calls Tryz.prog 3 #[.slice a len cap] w fun e w' => e = .returned (.bool true) ∧ Below w.heap.size w w' := by
  have hbig : decide ((1048576 : Int) < len) = true := by simp; omega
  go_enter Tryz.func3, Tryz.ntmps3
  go_wp2_with fail
  refine (bigCode_any _ _ _ _).mono ?_
  rintro e w' ⟨rfl, rfl⟩
  rw [hbig]
  clear hbig
  go_wp2
  go_ret
  exact ⟨rfl, Below.refl _ _⟩

theorem walk (w : World) (a0 : Option Addr) (len0 cap0 : Nat) (z0 : List Int) (w0 : IsRow .u8 w a0 len0 cap0 z0) :
    Calls Tryz.prog 3 #[.slice a0 len0 cap0] w fun e w' => e = .returned (.bool true) ∧ Below w.heap.size w w' := by
  by_cases hl : len0 ≤ 1048576
  · exact walkFnStep implStep implJams a0 len0 cap0 z0 w (code_of (show ByteRow w a0 len0 cap0 z0 from w0) hl) hl
  · exact walk_big a0 len0 cap0 w (by omega)

set_option maxRecDepth 100000 in
theorem lifted (os : Os) (started : os.Started) (H : Type) (enc : TypeId × Value → H) :
    ReturnsInHanded {} Tryz.checked os 3 .any (Rows.fnStepSpec.pre6 enc Tryz.prog Tryz.f3 Rows.fnStepRow.domain false) (Rows.fnStepSpec.post enc Tryz.prog Tryz.f3 false true false false) := by
  refine returnsInHanded_of_change (C := Tryz.checked) own started (by kernel_rfl) Tryz.func3
    (ChangeSpec.witness6 (enc := enc) (C := Tryz.checked) false ⟨#[], #[.slice none 0 0], []⟩ 8 (by kernel_rfl) (by kernel_rfl) (by kernel_rfl) (by kernel_rfl)) ?_
  intro W base args ds gs before hval0 hW hcnd _
  have hval : ∀ (j : Nat) t v, Tryz.f3.params[j]? = some t → args[j]? = some v → Value.okWide Tryz.prog W .any base t v := hval0
  have hW' := hW
  obtain ⟨p, q, hA0, hV, rfl, hfz, hnd⟩ := hW
  have hA : DataW.TrodAll enc Tryz.prog W 0 (fun _ => true) true Tryz.f3.params.toList args.toList ds p := hA0
  rw [Tryz.params3] at hA hval
  obtain ⟨v0, vs0, d0, ds0, p0, q0, hargs, rfl, rfl, h0, r0⟩ := trodAll_cons hA
  obtain ⟨rfl, rfl, rfl⟩ := trodAll_nil r0
  obtain rfl : args = #[v0] := by cases args; simp_all
  obtain ⟨rfl, rfl⟩ := trodVars_none hV
  have k0 := h0
  have lt0 : ∀ x ∈ p0, x.block < W.heap.size := by obtain ⟨m, hm⟩ := k0; exact DataW.trod_lt m _ _ _ hm
  obtain ⟨a0, len0, cap0, rfl⟩ := okWide_slice Tryz.underlying22 (hval 0 22 v0 rfl rfl)
  obtain ⟨z0, w0⟩ : ∃ zs, IsRow .u8 W a0 len0 cap0 zs := by
    obtain ⟨fuel, hf⟩ := h0
    rcases open_ints Tryz.underlying22 Tryz.underlying5 (by kernel_rfl) hf with ⟨hcs, _⟩ | ⟨x, l, c, zs, hcs, _, hl, hm, hz, _, hcell, hwz⟩
    · simp [Value.cells] at hcs
      obtain ⟨rfl, rfl, rfl⟩ := hcs
      exact ⟨[], .inl ⟨rfl, rfl, rfl, rfl⟩⟩
    · simp [Value.cells] at hcs
      obtain ⟨rfl, rfl, rfl⟩ := hcs
      exact ⟨zs, .inr ⟨_, rfl, hl, hm, by simpa using hz, hcell, hwz⟩⟩
  clear hA0 hval0
  refine (walk W a0 len0 cap0 z0 w0).mono fun e W' ⟨he, bel⟩ => ?_
  subst he
  exact ⟨_, rfl, _, _, _, [], _, [], hW', trodAll_mk1 (shut_bool Tryz.underlying4 _), (trodAll_cons_mk (Below.trod laidOut (by kernel_rfl) (of_decide_eq_true (by kernel_rfl)) k0 bel lt0) trodAll_mk0), rfl, bel.frame _, fun h => by cases h⟩

theorem over : Rows.fnStepRow.holds Tryz.pinned (OpenSpec.ofChange Rows.fnStepSpec) :=
  OpenClaim.holds_of_wide 3 Tryz.f3 rfl rfl rfl rfl rfl rfl rfl ⟨rfl, rfl, rfl, rfl, rfl⟩ rfl rfl rfl rfl rfl (by kernel_rfl) Tryz.func3 (by kernel_rfl)
    (of_decide_eq_true (by kernel_rfl)) (by unfold Func.isWrapper; first | (rw [if_pos (by decide +kernel)]; kernel_rfl) | (rw [if_neg (by decide +kernel)]; exact ⟨rfl, rfl⟩))
    (fun os started H enc _ => lifted os started H enc)

theorem proved : Rows.FnStepSaid := over
#print axioms proved

end Go.Proofs.YtblchdmemhhcbaaGreat.fnStep
