/-
  Contracts over the program: bytes and flags that are drawn: l01Once, l02Byte, l02Flags, and what DrawAdc, DrawCmp, DrawRol and DrawPackP tell: bytes, and any flags.
-/
import Derived.Test.YtddfgplgjjkdcaaDrawNum
import Derived.Test.YtddfgplgjjkdcaaAluE
import Derived.Deep.RegionWith
namespace Go.Proofs.Ytddfgplgjjkdcaa
open Go.RowKit

theorem grown_of_below {w w' : World} {row : Option Nat} (h : Below w.heap.size w w') : w.grownBy w' row :=
  ⟨h.os, h.tape, h.output, h.size, fun i hi _ => h.block i hi⟩

theorem grown_setCell {x y : World} {row : Option Nat} (h : x.grownBy y row) {p : Addr} (hp : x.heap.size ≤ p.block) (v : Value) : x.grownBy (y.setCell p v) row :=
  ⟨h.os, h.tape, h.output, by simpa [World.setCell] using h.size, fun i hi hn => (Below.heap_setCell y p v i (by omega)).trans (h.block i hi hn)⟩

theorem Drawn.setCell {n₀ B : Nat} {a : Option Addr} {len cap : Nat} {z : List Int} {s : Nat × Int} {w : World} (h : Drawn n₀ B a len cap z s w) {p : Addr} (hp : B < p.block) (v : Value) : Drawn n₀ B a len cap z s (w.setCell p v) :=
  ⟨h.1.kept ((Below.refl _ _).setCell (by have := h.2.2; omega) v), (Below.heap_setCell w p v B (by omega)).trans h.2.1, h.2.2⟩

theorem keep6_grown {W w1 : World} {B C : Nat} {a0 a1 a2 a3 a4 a5 : Value} {t : TypeId} (hg : W.grownBy w1 (some C)) (hne : B ≠ C) (h : W.heap[B]? = some (.cells #[a0, a1, a2, a3, a4, a5] t (0, 0))) : w1.heap[B]? = some (.cells #[a0, a1, a2, a3, a4, a5] t (0, 0)) :=
  (hg.block B (Array.getElem?_eq_some_iff.1 h).1 (fun e => hne (by cases e; rfl))).trans h

theorem free6 {w1 : World} {B : Nat} {a0 a1 a2 a3 a4 a5 : Value} {t : TypeId} (h : w1.heap[B]? = some (.cells #[a0, a1, a2, a3, a4, a5] t (0, 0))) :
    w1.frozen? ⟨B, 0, none⟩ = false ∧ w1.frozen? ⟨B, 1, none⟩ = false ∧ w1.frozen? ⟨B, 2, none⟩ = false ∧ w1.frozen? ⟨B, 3, none⟩ = false ∧ w1.frozen? ⟨B, 4, none⟩ = false ∧ w1.frozen? ⟨B, 5, none⟩ = false := by
  refine ⟨?_, ?_, ?_, ?_, ?_, ?_⟩
  all_goals simp [World.frozen?, h]

theorem once_drawn (n₀ B : Nat) (a : Option Addr) (len cap : Nat) (z : List Int) (s : Nat × Int) (n : Int) (w : World) (h : Drawn n₀ B a len cap z s w) :
    Calls Try.prog 35 #[.pointer (some ⟨B, 0, none⟩), .int .i64 n] w fun e w' => e = .returned (.bool (belowV z len s n == 0)) ∧ Drawn n₀ B a len cap z (belowS len s n) w' ∧ w.grownBy w' (some B) := by
  go_enter Try.func35, Try.ntmps35
  go_wp2_with fail
  refine (below_drawn n₀ B a len cap z s n _ h).mono ?_
  rintro e w1 ⟨rfl, hd1, hg1⟩
  go_wp2
  go_ret
  exact ⟨rfl, hd1, hg1⟩

def byteL : List Int := [0, 1, 9, 16, 127, 128, 153, 255, 154, 80]
def b2V (z : List Int) (len : Nat) (s : Nat × Int) : Int := if belowV z len s 2 = 0 then byteL[(belowV z len (belowS len s 2) 10).toNat]?.getD 0 else byteV z len (belowS len s 2)
def b2S (z : List Int) (len : Nat) (s : Nat × Int) : Nat × Int := if belowV z len s 2 = 0 then belowS len (belowS len s 2) 10 else nextS len (belowS len s 2)

theorem byteL_bd (i : Nat) : 0 ≤ byteL[i]?.getD 0 ∧ byteL[i]?.getD 0 ≤ 255 := by
  cases hq : byteL[i]? with
  | none => simp
  | some y =>
    have hm := List.mem_of_getElem? hq
    simp only [byteL, List.mem_cons, List.not_mem_nil, or_false] at hm
    simp only [Option.getD_some]
    omega

theorem b2V_bd (z : List Int) (len : Nat) (s : Nat × Int) : 0 ≤ b2V z len s ∧ b2V z len s ≤ 255 := by
  unfold b2V
  split
  · exact byteL_bd _
  · exact byteX_bound z len _ _

set_option maxRecDepth 100000 in
theorem byte2_drawn (n₀ B : Nat) (a : Option Addr) (len cap : Nat) (z : List Int) (s : Nat × Int) (w : World) (h : Drawn n₀ B a len cap z s w) :
    Calls Try.prog 29 #[.pointer (some ⟨B, 0, none⟩)] w fun e w' => e = .returned (.int .u8 (b2V z len s)) ∧ Drawn n₀ B a len cap z (b2S z len s) w' ∧ w.grownBy w' (some B) := by
  by_cases h0 : belowV z len s 2 = 0
  · have HV := Lib.hid (show b2V z len s = byteL[(belowV z len (belowS len s 2) 10).toNat]?.getD 0 from if_pos h0)
    have HS := Lib.hid (show b2S z len s = belowS len (belowS len s 2) 10 from if_pos h0)
    have h1 : (belowV z len s 2 == 0) = true := by rw [h0]; rfl
    obtain ⟨q0, q1⟩ := byteL_bd (belowV z len (belowS len s 2) 10).toNat
    clear h0
    go_enter Try.func29, Try.ntmps29
    go_wp2_with fail
    refine (once_drawn n₀ B a len cap z s 2 _ h).mono ?_
    rintro e w1 ⟨rfl, hd1, hg1⟩
    rw [h1]
    clear h1
    go_wp2_with fail
    have hcells := ints_cells w1 byteL 3
    refine (pickInt_drawn n₀ B a len cap z (belowS len s 2) w1.heap.size 10 10 byteL _ (hd1.alloc _) (by omega) (by omega) (by have := hd1.lt; omega) (by simp) (fun i hi => hcells i hi)).mono ?_
    rintro e w2 ⟨rfl, hd2, hg2⟩
    go_wp2
    go_ret
    refine ⟨ret_int HV.out.symm, by rw [HS.out]; exact hd2, ?_⟩
    exact grown_trans hg1 (grown_trans (World.grownBy_alloc w1 _ (some B)) hg2)
  · have HV := Lib.hid (show b2V z len s = byteV z len (belowS len s 2) from if_neg h0)
    have HS := Lib.hid (show b2S z len s = nextS len (belowS len s 2) from if_neg h0)
    have h1 : (belowV z len s 2 == 0) = false := by rw [beq_eq_false_iff_ne]; exact h0
    obtain ⟨q0, q1⟩ := byteX_bound z len (belowS len s 2).1 (belowS len s 2).2
    have c0 : 0 ≤ byteV z len (belowS len s 2) := q0
    have c1 : byteV z len (belowS len s 2) ≤ 255 := q1
    clear h0 q0 q1
    go_enter Try.func29, Try.ntmps29
    go_wp2_with fail
    refine (once_drawn n₀ B a len cap z s 2 _ h).mono ?_
    rintro e w1 ⟨rfl, hd1, hg1⟩
    rw [h1]
    clear h1
    go_wp2_with fail
    refine (byte_drawn n₀ B a len cap z _ _ hd1).mono ?_
    rintro e w2 ⟨rfl, hd2, hg2⟩
    go_wp2
    go_ret
    exact ⟨ret_int HV.out.symm, by rw [HS.out]; exact hd2, grown_trans hg1 hg2⟩

/-- A byte that is drawn: whichever it is. -/
def DrewByte (n₀ B : Nat) (a : Option Addr) (len cap : Nat) (z : List Int) (w : World) (e : Ending) (w' : World) : Prop :=
  ∃ (x : Int) (s : Nat × Int), 0 ≤ x ∧ x ≤ 255 ∧ e = .returned (.int .u8 x) ∧ Drawn n₀ B a len cap z s w' ∧ w.grownBy w' (some B)

theorem byte2_some (n₀ B : Nat) (a : Option Addr) (len cap : Nat) (z : List Int) (s : Nat × Int) (w : World) (h : Drawn n₀ B a len cap z s w) :
    Calls Try.prog 29 #[.pointer (some ⟨B, 0, none⟩)] w (DrewByte n₀ B a len cap z w) :=
  (byte2_drawn n₀ B a len cap z s w h).mono fun _ _ ⟨he, hd, hg⟩ => ⟨_, _, (b2V_bd z len s).1, (b2V_bd z len s).2, he, hd, hg⟩

/-- Flags that are drawn: whichever they are. -/
def DrewFlags (n₀ B : Nat) (a : Option Addr) (len cap : Nat) (z : List Int) (w : World) (e : Ending) (w' : World) : Prop :=
  ∃ n v d i zf c : Bool, ∃ s : Nat × Int, e = .returned (.agg #[.bool n, .bool v, .bool d, .bool i, .bool zf, .bool c]) ∧ Drawn n₀ B a len cap z s w' ∧ w.grownBy w' (some B)

set_option maxRecDepth 100000 in
theorem flags2_drawn (n₀ B : Nat) (a : Option Addr) (len cap : Nat) (z : List Int) (s : Nat × Int) (w : World) (h : Drawn n₀ B a len cap z s w) :
    Calls Try.prog 30 #[.pointer (some ⟨B, 0, none⟩)] w (DrewFlags n₀ B a len cap z w) := by
  have hlt := h.lt
  obtain ⟨q0, q1⟩ := byteX_bound z len s.1 s.2
  have c0 : 0 ≤ byteV z len s := q0
  have c1 : byteV z len s ≤ 255 := q1
  clear q0 q1
  go_enter Try.func30, Try.ntmps30
  go_wp2_with fail
  refine (byte_drawn n₀ B a len cap z s _ (h.alloc _)).mono ?_
  rintro e w1 ⟨rfl, hd1, hg1⟩
  have B1 := Lib.hid (keep6_grown hg1 (by omega) (new6 w))
  have gg1 := grown_trans (World.grownBy_alloc w _ (some B)) hg1
  generalize byteV z len s = x at *
  go_wp2_with fail
  refine (specUnpackP_any _ _).mono ?_
  rintro e w2 ⟨rfl, hb2⟩
  have B2 := Lib.hid (keep6 hb2 B1.out)
  have hd2 := hd1.below hb2
  have gg2 := grown_trans gg1 (grown_of_below hb2)
  obtain ⟨z2, d0, d1, d2, d3, d4, d5⟩ := cells6 B2.out
  obtain ⟨f0, f1, f2, f3, f4, f5⟩ := free6 B2.out
  go_wp2
  refine bodyPost_ret (v := .agg #[.bool (hasB x 128), .bool (hasB x 64), .bool (hasB x 8), .bool (hasB x 4), .bool (hasB x 2), .bool (hasB x 1)]) (by simp [results, Try.results30, go_sem, d0, d1, d2, d3, d4, d5]) rfl ⟨_, _, _, _, _, _, nextS len s, rfl, ?_, ?_⟩
  · exact (((((hd2.setCell hlt _).setCell hlt _).setCell hlt _).setCell hlt _).setCell hlt _).setCell hlt _
  · exact grown_setCell (grown_setCell (grown_setCell (grown_setCell (grown_setCell (grown_setCell gg2 (Nat.le_refl _) _) (Nat.le_refl _) _) (Nat.le_refl _) _) (Nat.le_refl _) _) (Nat.le_refl _) _) (Nat.le_refl _) _

/-- Two bytes and flags that are drawn; one byte and flags; flags and a bool. -/
def DrewTwo (w : World) (e : Ending) (w' : World) : Prop :=
  ∃ (x y : Int) (n v d i zf c : Bool), 0 ≤ x ∧ x ≤ 255 ∧ 0 ≤ y ∧ y ≤ 255 ∧ e = .returned (.tuple #[.int .u8 x, .int .u8 y, .agg #[.bool n, .bool v, .bool d, .bool i, .bool zf, .bool c]]) ∧ Below w.heap.size w w'
def DrewOne (w : World) (e : Ending) (w' : World) : Prop :=
  ∃ (x : Int) (n v d i zf c : Bool), 0 ≤ x ∧ x ≤ 255 ∧ e = .returned (.tuple #[.int .u8 x, .agg #[.bool n, .bool v, .bool d, .bool i, .bool zf, .bool c]]) ∧ Below w.heap.size w w'
def DrewPack (w : World) (e : Ending) (w' : World) : Prop :=
  ∃ (n v d i zf c brk : Bool), e = .returned (.tuple #[.agg #[.bool n, .bool v, .bool d, .bool i, .bool zf, .bool c], .bool brk]) ∧ Below w.heap.size w w'

set_option maxRecDepth 100000 in
theorem drawAdc_any (n₀ : Nat) (a : Option Addr) (len cap : Nat) (z : List Int) (w : World) (hc : CodeRow n₀ w a len z) (hn : n₀ ≤ w.heap.size) :
    Calls Try.prog 10 #[.slice a len cap] w (DrewTwo w) := by
  go_enter Try.func10, Try.ntmps10
  go_wp2_with fail
  have hc1 := hc.kept ((Below.refl _ _).alloc hn (.cells #[.bool false, .bool false, .bool false, .bool false, .bool false, .bool false] 25))
  have hst := hc1.start (cap := cap) (by simp; omega)
  refine (new_any n₀ a len cap z _ hc1).mono ?_
  rintro e w0 ⟨rfl, rfl⟩
  have R0 := Lib.hid (keep6_alloc (.cells #[.slice a len cap, .int .i64 0, .int .i64 (startH z len)] 54) (new6 w (t := 25) (a0 := .bool false) (a1 := .bool false) (a2 := .bool false) (a3 := .bool false) (a4 := .bool false) (a5 := .bool false)))
  have hne : w.heap.size ≠ w.heap.size + 1 := by omega
  have hB0 := ((Below.refl w.heap.size w).alloc (Nat.le_refl _) (.cells #[.bool false, .bool false, .bool false, .bool false, .bool false, .bool false] 25)).alloc (by simp) (.cells #[.slice a len cap, .int .i64 0, .int .i64 (startH z len)] 54)
  rw [World.size_alloc] at hst
  obtain ⟨W0, HW0⟩ : ∃ W, Hid (((w.alloc (.cells #[.bool false, .bool false, .bool false, .bool false, .bool false, .bool false] 25)).alloc (.cells #[.slice a len cap, .int .i64 0, .int .i64 (startH z len)] 54)) = W) := ⟨_, Lib.hid rfl⟩
  rw [HW0.out] at hst R0 hB0 ⊢
  clear HW0 hc1
  go_wp2_with fail
  refine (byte2_some n₀ _ a len cap z _ _ hst).mono ?_
  rintro e w1 ⟨x, s1, x0, x1, rfl, hd1, hg1⟩
  have R1 := Lib.hid (keep6_grown hg1 hne R0.out)
  have hB1 := hB0.trans (grown_below hg1 (by omega) hst.lt)
  go_wp2_with fail
  refine (byte2_some n₀ _ a len cap z _ _ hd1).mono ?_
  rintro e w2 ⟨y, s2, y0, y1, rfl, hd2, hg2⟩
  have R2 := Lib.hid (keep6_grown hg2 hne R1.out)
  have hB2 := hB1.trans (grown_below hg2 (by omega) hd1.lt)
  go_wp2_with fail
  refine (flags2_drawn n₀ _ a len cap z _ _ hd2).mono ?_
  rintro e w3 ⟨n, v, d, i, zf, c, s, rfl, hd3, hg3⟩
  have R3 := Lib.hid (keep6_grown hg3 hne R2.out)
  have hB3 := hB2.trans (grown_below hg3 (by omega) hd2.lt)
  obtain ⟨z2, d0, d1, d2, d3, d4, d5⟩ := cells6 R3.out
  obtain ⟨f0, f1, f2, f3, f4, f5⟩ := free6 R3.out
  go_wp2
  refine bodyPost_ret (v := .tuple #[.int .u8 x, .int .u8 y, .agg #[.bool n, .bool v, .bool d, .bool i, .bool zf, .bool c]]) (by simp [results, Try.results10, go_sem, d0, d1, d2, d3, d4, d5]) rfl ⟨x, y, n, v, d, i, zf, c, x0, x1, y0, y1, rfl, ?_⟩
  exact (((((hB3.setCell (Nat.le_refl _) _).setCell (Nat.le_refl _) _).setCell (Nat.le_refl _) _).setCell (Nat.le_refl _) _).setCell (Nat.le_refl _) _).setCell (Nat.le_refl _) _

set_option maxRecDepth 100000 in
theorem drawCmp_any (n₀ : Nat) (a : Option Addr) (len cap : Nat) (z : List Int) (w : World) (hc : CodeRow n₀ w a len z) (hn : n₀ ≤ w.heap.size) :
    Calls Try.prog 21 #[.slice a len cap] w (DrewTwo w) := by
  go_enter Try.func21, Try.ntmps21
  go_wp2_with fail
  have hc1 := hc.kept ((Below.refl _ _).alloc hn (.cells #[.bool false, .bool false, .bool false, .bool false, .bool false, .bool false] 25))
  have hst := hc1.start (cap := cap) (by simp; omega)
  refine (new_any n₀ a len cap z _ hc1).mono ?_
  rintro e w0 ⟨rfl, rfl⟩
  have R0 := Lib.hid (keep6_alloc (.cells #[.slice a len cap, .int .i64 0, .int .i64 (startH z len)] 54) (new6 w (t := 25) (a0 := .bool false) (a1 := .bool false) (a2 := .bool false) (a3 := .bool false) (a4 := .bool false) (a5 := .bool false)))
  have hne : w.heap.size ≠ w.heap.size + 1 := by omega
  have hB0 := ((Below.refl w.heap.size w).alloc (Nat.le_refl _) (.cells #[.bool false, .bool false, .bool false, .bool false, .bool false, .bool false] 25)).alloc (by simp) (.cells #[.slice a len cap, .int .i64 0, .int .i64 (startH z len)] 54)
  rw [World.size_alloc] at hst
  obtain ⟨W0, HW0⟩ : ∃ W, Hid (((w.alloc (.cells #[.bool false, .bool false, .bool false, .bool false, .bool false, .bool false] 25)).alloc (.cells #[.slice a len cap, .int .i64 0, .int .i64 (startH z len)] 54)) = W) := ⟨_, Lib.hid rfl⟩
  rw [HW0.out] at hst R0 hB0 ⊢
  clear HW0 hc1
  go_wp2_with fail
  refine (byte2_some n₀ _ a len cap z _ _ hst).mono ?_
  rintro e w1 ⟨x, s1, x0, x1, rfl, hd1, hg1⟩
  have R1 := Lib.hid (keep6_grown hg1 hne R0.out)
  have hB1 := hB0.trans (grown_below hg1 (by omega) hst.lt)
  go_wp2_with fail
  refine (byte2_some n₀ _ a len cap z _ _ hd1).mono ?_
  rintro e w2 ⟨y, s2, y0, y1, rfl, hd2, hg2⟩
  have R2 := Lib.hid (keep6_grown hg2 hne R1.out)
  have hB2 := hB1.trans (grown_below hg2 (by omega) hd1.lt)
  go_wp2_with fail
  refine (flags2_drawn n₀ _ a len cap z _ _ hd2).mono ?_
  rintro e w3 ⟨n, v, d, i, zf, c, s, rfl, hd3, hg3⟩
  have R3 := Lib.hid (keep6_grown hg3 hne R2.out)
  have hB3 := hB2.trans (grown_below hg3 (by omega) hd2.lt)
  obtain ⟨z2, d0, d1, d2, d3, d4, d5⟩ := cells6 R3.out
  obtain ⟨f0, f1, f2, f3, f4, f5⟩ := free6 R3.out
  go_wp2
  refine bodyPost_ret (v := .tuple #[.int .u8 x, .int .u8 y, .agg #[.bool n, .bool v, .bool d, .bool i, .bool zf, .bool c]]) (by simp [results, Try.results21, go_sem, d0, d1, d2, d3, d4, d5]) rfl ⟨x, y, n, v, d, i, zf, c, x0, x1, y0, y1, rfl, ?_⟩
  exact (((((hB3.setCell (Nat.le_refl _) _).setCell (Nat.le_refl _) _).setCell (Nat.le_refl _) _).setCell (Nat.le_refl _) _).setCell (Nat.le_refl _) _).setCell (Nat.le_refl _) _

set_option maxRecDepth 100000 in
theorem drawRol_any (n₀ : Nat) (a : Option Addr) (len cap : Nat) (z : List Int) (w : World) (hc : CodeRow n₀ w a len z) (hn : n₀ ≤ w.heap.size) :
    Calls Try.prog 14 #[.slice a len cap] w (DrewOne w) := by
  go_enter Try.func14, Try.ntmps14
  go_wp2_with fail
  have hc1 := hc.kept ((Below.refl _ _).alloc hn (.cells #[.bool false, .bool false, .bool false, .bool false, .bool false, .bool false] 25))
  have hst := hc1.start (cap := cap) (by simp; omega)
  refine (new_any n₀ a len cap z _ hc1).mono ?_
  rintro e w0 ⟨rfl, rfl⟩
  have R0 := Lib.hid (keep6_alloc (.cells #[.slice a len cap, .int .i64 0, .int .i64 (startH z len)] 54) (new6 w (t := 25) (a0 := .bool false) (a1 := .bool false) (a2 := .bool false) (a3 := .bool false) (a4 := .bool false) (a5 := .bool false)))
  have hne : w.heap.size ≠ w.heap.size + 1 := by omega
  have hB0 := ((Below.refl w.heap.size w).alloc (Nat.le_refl _) (.cells #[.bool false, .bool false, .bool false, .bool false, .bool false, .bool false] 25)).alloc (by simp) (.cells #[.slice a len cap, .int .i64 0, .int .i64 (startH z len)] 54)
  rw [World.size_alloc] at hst
  obtain ⟨W0, HW0⟩ : ∃ W, Hid (((w.alloc (.cells #[.bool false, .bool false, .bool false, .bool false, .bool false, .bool false] 25)).alloc (.cells #[.slice a len cap, .int .i64 0, .int .i64 (startH z len)] 54)) = W) := ⟨_, Lib.hid rfl⟩
  rw [HW0.out] at hst R0 hB0 ⊢
  clear HW0 hc1
  go_wp2_with fail
  refine (byte2_some n₀ _ a len cap z _ _ hst).mono ?_
  rintro e w1 ⟨x, s1, x0, x1, rfl, hd1, hg1⟩
  have R1 := Lib.hid (keep6_grown hg1 hne R0.out)
  have hB1 := hB0.trans (grown_below hg1 (by omega) hst.lt)
  go_wp2_with fail
  refine (flags2_drawn n₀ _ a len cap z _ _ hd1).mono ?_
  rintro e w2 ⟨n, v, d, i, zf, c, s, rfl, hd2, hg2⟩
  have R2 := Lib.hid (keep6_grown hg2 hne R1.out)
  have hB2 := hB1.trans (grown_below hg2 (by omega) hd1.lt)
  obtain ⟨z2, d0, d1, d2, d3, d4, d5⟩ := cells6 R2.out
  obtain ⟨f0, f1, f2, f3, f4, f5⟩ := free6 R2.out
  go_wp2
  refine bodyPost_ret (v := .tuple #[.int .u8 x, .agg #[.bool n, .bool v, .bool d, .bool i, .bool zf, .bool c]]) (by simp [results, Try.results14, go_sem, d0, d1, d2, d3, d4, d5]) rfl ⟨x, n, v, d, i, zf, c, x0, x1, rfl, ?_⟩
  exact (((((hB2.setCell (Nat.le_refl _) _).setCell (Nat.le_refl _) _).setCell (Nat.le_refl _) _).setCell (Nat.le_refl _) _).setCell (Nat.le_refl _) _).setCell (Nat.le_refl _) _

end Go.Proofs.Ytddfgplgjjkdcaa
