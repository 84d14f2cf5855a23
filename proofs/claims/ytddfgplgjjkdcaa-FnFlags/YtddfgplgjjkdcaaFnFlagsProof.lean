/-
  For every code the law FnFlags returns true: flags come back from their byte, whatever else stands in it; what is compared is less, alike or more. There are no conditions.
-/
import Derived.Test.YtddfgplgjjkdcaaRows
import Derived.WalkKit
import Derived.ProofKit
import Derived.OpenShut
import Derived.ShutString
import Derived.ChangeOld
import Derived.Below
import Derived.Test.YtddfgplgjjkdcaaDraw3
import Derived.Test.YtddfgplgjjkdcaaAluY
import Derived.Test.YtddfgplgjjkdcaaCodeArg
namespace Go.Proofs.Ytddfgplgjjkdcaa.fnFlags
open Go.ChangeShapes Go.WideShapes Go.ChangeAt Go.RowKit
open Go.ChangeMaps (open_string shut_string)
set_option linter.unusedVariables false

theorem own : ownKnob Try.prog.godebug = none := by kernel_rfl
theorem laidOut : laidOutB Try.prog = true := by kernel_rfl

/-- A slice of integers that came in: nil, or a row of cells. -/
def IsRow (k : IntKind) (w : World) (a : Option Addr) (len cap : Nat) (zs : List Int) : Prop :=
  (a = none ∧ len = 0 ∧ cap = 0 ∧ zs = []) ∨
  ∃ x, a = some x ∧ len ≤ cap ∧ cap ≤ maxLen ∧ zs.length = cap ∧ (∀ i, i < zs.length → w.cell? (x.add i) = some (.int k (zs.getD i 0))) ∧ ∀ n ∈ zs, (Lit.int k n).wf = true

theorem cmp_zero (x y : Int) (h0 : 0 ≤ x) (h1 : x ≤ 255) (h2 : 0 ≤ y) (h3 : y ≤ 255) : isZ ((x - y) % 256) = (x == y) := by
  unfold isZ
  rw [Bool.eq_iff_iff, beq_iff_eq, beq_iff_eq]
  omega

theorem big_any (a : Option Addr) (len cap : Nat) (w : World) :
    Calls Try.prog 9 #[.slice a len cap] w fun e w' => e = .returned (.bool (decide ((1048576 : Int) < len))) ∧ w = w' := by
  go_enter Try.func9, Try.ntmps9
  go_wp2
  go_ret
  exact ⟨rfl, rfl⟩

theorem walk_big (a : Option Addr) (len cap : Nat) (w : World) (h : 1048576 < len) :
    Calls Try.prog 6 #[.slice a len cap] w fun e w' => e = .returned (.bool true) ∧ Below w.heap.size w w' := by
  have hbig : decide ((1048576 : Int) < len) = true := by simp; omega
  go_enter Try.func6, Try.ntmps6
  go_wp2_with fail
  refine (big_any _ _ _ _).mono ?_
  rintro e w' ⟨rfl, rfl⟩
  rw [hbig]
  clear hbig
  go_wp2
  go_ret
  exact ⟨rfl, Below.refl _ _⟩

set_option maxRecDepth 100000 in
set_option maxHeartbeats 1600000 in
theorem walk_all (a : Option Addr) (len cap : Nat) (z : List Int) (w : World) (hc : CodeRow w.heap.size w a len z) :
    Calls Try.prog 6 #[.slice a len cap] w fun e w' => e = .returned (.bool true) ∧ Below w.heap.size w w' := by
  have hl := hc.1
  have hbig : decide ((1048576 : Int) < len) = false := by simp; omega
  go_enter Try.func6, Try.ntmps6
  go_wp2_with fail
  refine (big_any _ _ _ _).mono ?_
  rintro e w' ⟨rfl, rfl⟩
  rw [hbig]
  clear hbig
  go_wp2_with fail
  refine (drawPackP_any w.heap.size a len cap z _ hc (Nat.le_refl _)).mono ?_
  rintro e w1 ⟨n, v, d, i, zf, c, brk, rfl, hb1⟩
  have q1 := hb1
  obtain ⟨b, HB⟩ : ∃ b, Hid (pkV n v brk d i zf c = b) := ⟨_, Lib.hid rfl⟩
  have U1 := Lib.hid (pk_un1 n v brk d i zf c)
  have U2 := Lib.hid (pk_un2 n v brk d i zf c)
  rw [HB.out] at U1 U2
  obtain ⟨b0, b1⟩ : 0 ≤ b ∧ b ≤ 255 := by rw [← HB.out]; exact pkV_bd _ _ _ _ _ _ _
  go_wp2_with fail
  refine (implPackP_any _ _ _ _ _ _ _ _).mono ?_
  rintro e w2 ⟨rfl, hb2⟩
  have F_2 := Lib.hid (keep6 hb2 (new6 w1))
  have q2 := (q1.alloc q1.size _).trans (hb2.mono (by simp; have := q1.size; omega))
  obtain ⟨z_F, c_F0, c_F1, c_F2, c_F3, c_F4, c_F5⟩ := cells6 F_2.out
  rw [HB.out]
  go_wp2_with fail
  refine (drawCmp_any w.heap.size a len cap z _ (hc.kept q2) q2.size).mono ?_
  rintro e w3 ⟨x, y, n', v', d', i', z', c', x0, x1, y0, y1, rfl, hb3⟩
  have F_3 := Lib.hid (keep6 hb3 F_2.out)
  have q3 := q2.trans (hb3.mono q2.size)
  clear z_F c_F0 c_F1 c_F2 c_F3 c_F4 c_F5
  have hCM : cmC x y = decide (y ≤ x) := rfl
  have HCM := Lib.hid hCM
  clear hCM
  have HZZ := Lib.hid (cmp_zero x y x0 x1 y0 y1)
  go_wp2_with fail
  refine (implCmp_any _ _ _ _ _ _ _ _ x0 x1 y0 y1 _).mono ?_
  rintro e w4 ⟨rfl, hb4⟩
  have F_4 := Lib.hid (keep6 hb4 (keep6_alloc _ F_3.out))
  have G_4 := Lib.hid (keep6 hb4 (new6 w3))
  have q4 := (q3.alloc q3.size _).trans (hb4.mono (by simp; have := q3.size; omega))
  obtain ⟨z_F, c_F0, c_F1, c_F2, c_F3, c_F4, c_F5⟩ := cells6 F_4.out
  obtain ⟨z_G, c_G0, c_G1, c_G2, c_G3, c_G4, c_G5⟩ := cells6 G_4.out
  rw [HCM.out, HZZ.out]
  have hF4 := (cells6 F_4.out).2
  have hG4 := (cells6 G_4.out).2
  have hH4 := (cells6 (new6 w4 (t := 25) (a0 := .bool (bit7 ((x - y) % 256))) (a1 := .bool v') (a2 := .bool d') (a3 := .bool i') (a4 := .bool (x == y)) (a5 := .bool (decide (y ≤ x))))).2
  clear z_F c_F0 c_F1 c_F2 c_F3 c_F4 c_F5 z_G c_G0 c_G1 c_G2 c_G3 c_G4 c_G5
  have q5 := q4.alloc q4.size (.cells #[.bool (bit7 ((x - y) % 256)), .bool v', .bool d', .bool i', .bool (x == y), .bool (decide (y ≤ x))] 25)
  go_wp2_with fail
  go_region_held3 (fun w' => (w'.cell? ⟨w1.heap.size, 0, none⟩ = some (.bool n) ∧ w'.cell? ⟨w1.heap.size, 1, none⟩ = some (.bool v) ∧ w'.cell? ⟨w1.heap.size, 2, none⟩ = some (.bool d) ∧ w'.cell? ⟨w1.heap.size, 3, none⟩ = some (.bool i) ∧ w'.cell? ⟨w1.heap.size, 4, none⟩ = some (.bool zf) ∧ w'.cell? ⟨w1.heap.size, 5, none⟩ = some (.bool c)) ∧ (w'.cell? ⟨w3.heap.size, 0, none⟩ = some (.bool n') ∧ w'.cell? ⟨w3.heap.size, 1, none⟩ = some (.bool v') ∧ w'.cell? ⟨w3.heap.size, 2, none⟩ = some (.bool d') ∧ w'.cell? ⟨w3.heap.size, 3, none⟩ = some (.bool i') ∧ w'.cell? ⟨w3.heap.size, 4, none⟩ = some (.bool z') ∧ w'.cell? ⟨w3.heap.size, 5, none⟩ = some (.bool c')) ∧ (w'.cell? ⟨w4.heap.size, 0, none⟩ = some (.bool (bit7 ((x - y) % 256))) ∧ w'.cell? ⟨w4.heap.size, 1, none⟩ = some (.bool v') ∧ w'.cell? ⟨w4.heap.size, 2, none⟩ = some (.bool d') ∧ w'.cell? ⟨w4.heap.size, 3, none⟩ = some (.bool i') ∧ w'.cell? ⟨w4.heap.size, 4, none⟩ = some (.bool (x == y)) ∧ w'.cell? ⟨w4.heap.size, 5, none⟩ = some (.bool (decide (y ≤ x))))) (((try dsimp only); refine ⟨?_, ?_, ?_⟩ <;> (repeat (first | (with_reducible exact hF4) | (with_reducible exact hG4) | (with_reducible exact hH4) | (with_reducible refine six_alloc _ ?_) | (with_reducible refine six_drew ?_) | (with_reducible refine six_drewN _ ?_)))))
    (first | (go_at_call 23; (with_reducible refine (implUnpackP_pk b n v d i zf c U1.out _).mono ?_); rintro e w' ⟨rfl, rfl⟩) | (go_at_call 23; (with_reducible refine (implUnpackP_pk (bits .xor .u8 b 48) n v d i zf c U2.out _).mono ?_); rintro e w' ⟨rfl, rfl⟩) | (go_at_call 24; (with_reducible refine (specPackP_exact n v d i zf c brk _).mono ?_); rintro e w' ⟨rfl, kd, rfl⟩; rw [HB.out]))
  go_wp2
  go_ret
  refine ⟨rfl, ?_⟩
  repeat (any_goals (first | (with_reducible exact q5) | (with_reducible refine Below.drew ?_) | (with_reducible refine below_drewN ?_ _) | (with_reducible refine Below.alloc ?_ ?_ _)))
  all_goals (have := q4.size; first | (simp; done) | (simp; omega) | (simp [World.drewN, World.drew]; omega))

theorem walk (w : World) (a0 : Option Addr) (len0 cap0 : Nat) (z0 : List Int) (w0 : IsRow .u8 w a0 len0 cap0 z0) :
    Calls Try.prog 6 #[.slice a0 len0 cap0] w fun e w' => e = .returned (.bool true) ∧ Below w.heap.size w w' := by
  by_cases hl : len0 ≤ 1048576
  · exact walk_all a0 len0 cap0 z0 w (code_of (show ByteRow w a0 len0 cap0 z0 from w0) hl)
  · exact walk_big a0 len0 cap0 w (by omega)

set_option maxRecDepth 100000 in
theorem lifted (os : Os) (started : os.Started) (H : Type) (enc : TypeId × Value → H) :
    ReturnsInHanded {} Try.checked os 6 .any (Rows.fnFlagsSpec.pre6 enc Try.prog Try.f6 Rows.fnFlagsRow.domain false) (Rows.fnFlagsSpec.post enc Try.prog Try.f6 false true false false) := by
  refine returnsInHanded_of_change (C := Try.checked) own started (by kernel_rfl) Try.func6
    (ChangeSpec.witness6 (enc := enc) (C := Try.checked) false ⟨#[], #[.slice none 0 0], []⟩ 8 (by kernel_rfl) (by kernel_rfl) (by kernel_rfl) (by kernel_rfl)) ?_
  intro W base args ds gs before hval0 hW hcnd _
  have hval : ∀ (j : Nat) t v, Try.f6.params[j]? = some t → args[j]? = some v → Value.okWide Try.prog W .any base t v := hval0
  have hW' := hW
  obtain ⟨p, q, hA0, hV, rfl, hfz, hnd⟩ := hW
  have hA : DataW.TrodAll enc Try.prog W 0 (fun _ => true) true Try.f6.params.toList args.toList ds p := hA0
  rw [Try.params6] at hA hval
  obtain ⟨v0, vs0, d0, ds0, p0, q0, hargs, rfl, rfl, h0, r0⟩ := trodAll_cons hA
  obtain ⟨rfl, rfl, rfl⟩ := trodAll_nil r0
  obtain rfl : args = #[v0] := by cases args; simp_all
  obtain ⟨rfl, rfl⟩ := trodVars_none hV
  have k0 := h0
  have lt0 : ∀ x ∈ p0, x.block < W.heap.size := by obtain ⟨m, hm⟩ := k0; exact DataW.trod_lt m _ _ _ hm
  obtain ⟨a0, len0, cap0, rfl⟩ := okWide_slice Try.underlying22 (hval 0 22 v0 rfl rfl)
  obtain ⟨z0, w0⟩ : ∃ zs, IsRow .u8 W a0 len0 cap0 zs := by
    obtain ⟨fuel, hf⟩ := h0
    rcases open_ints Try.underlying22 Try.underlying5 (by kernel_rfl) hf with ⟨hcs, _⟩ | ⟨x, l, c, zs, hcs, _, hl, hm, hz, _, hcell, hwz⟩
    · simp [Value.cells] at hcs
      obtain ⟨rfl, rfl, rfl⟩ := hcs
      exact ⟨[], .inl ⟨rfl, rfl, rfl, rfl⟩⟩
    · simp [Value.cells] at hcs
      obtain ⟨rfl, rfl, rfl⟩ := hcs
      exact ⟨zs, .inr ⟨_, rfl, hl, hm, by simpa using hz, hcell, hwz⟩⟩
  clear hA0 hval0
  refine (walk W a0 len0 cap0 z0 w0).mono fun e W' ⟨he, bel⟩ => ?_
  subst he
  exact ⟨_, rfl, _, _, _, [], _, [], hW', trodAll_mk1 (shut_bool Try.underlying4 _), (trodAll_cons_mk (Below.trod laidOut (by kernel_rfl) (of_decide_eq_true (by kernel_rfl)) k0 bel lt0) trodAll_mk0), rfl, bel.frame _, fun h => by cases h⟩

theorem over : Rows.fnFlagsRow.holds Try.pinned (OpenSpec.ofChange Rows.fnFlagsSpec) :=
  OpenClaim.holds_of_wide 6 Try.f6 rfl rfl rfl rfl rfl rfl rfl ⟨rfl, rfl, rfl, rfl, rfl⟩ rfl rfl rfl rfl rfl (by kernel_rfl) Try.func6 (by kernel_rfl)
    (of_decide_eq_true (by kernel_rfl)) (by unfold Func.isWrapper; first | (rw [if_pos (by decide +kernel)]; kernel_rfl) | (rw [if_neg (by decide +kernel)]; exact ⟨rfl, rfl⟩))
    (fun os started H enc _ => lifted os started H enc)

theorem proved : Rows.FnFlagsSaid := over
#print axioms proved
end Go.Proofs.Ytddfgplgjjkdcaa.fnFlags
