/-
  Contracts over the program: a memory, an address and a list that are drawn.
-/
import Derived.Test.YtppkcljpfjdlnaaDrawRam
namespace Go.Proofs.Ytppkcljpfjdlnaa
set_option linter.unusedVariables false
set_option linter.unusedSimpArgs false
open Go.RowKit

def DrewFill (w : World) (e : Ending) (w' : World) : Prop :=
  ∃ (v : Value) (L : List Nat) (addr : Nat) (vx : Value) (X : List Nat), L.length ≤ 8192 ∧ addr < 65536 ∧ X.length ≤ 1025 ∧ e = .returned (.tuple #[ramV v, .int .u16 addr, vx]) ∧ OwnB w' w.heap.size v L ∧ OwnB w' w.heap.size vx X ∧ Below w.heap.size w w'

/-- The numbers 0, 1 .. as bytes, up to a place; behind it noughts. -/
def countL (n j : Nat) : List Nat := (List.range j).map (fun i => i % 256) ++ List.replicate (n - j) 0
theorem countL_len {n j : Nat} (h : j ≤ n) : (countL n j).length = n := by simp [countL]; omega
theorem countL_step {n j : Nat} (h : j < n) : (countL n j).set j (j % 256) = countL n (j + 1) := by
  unfold countL
  have e : List.replicate (n - j) 0 = 0 :: List.replicate (n - (j + 1)) 0 := by
    rw [show n - j = (n - (j + 1)) + 1 by omega, List.replicate_succ]
  rw [e, List.set_append_right _ _ (by simp), List.range_succ]
  simp
theorem countL_bd (n j i : Nat) : (countL n j).getD i 0 < 256 := by
  unfold countL
  rw [List.getD, List.getElem?_append]
  split
  · rename_i h
    have : i < j := by simpa using h
    simp [this]; omega
  · rw [List.getElem?_replicate]
    split <;> simp

set_option maxRecDepth 100000 in
set_option maxHeartbeats 4000000 in
theorem drawFill_any (n₀ : Nat) (a : Option Addr) (len cap : Nat) (z : List Int) (w : World) (hc : CodeRow n₀ w a len z) (hn : n₀ ≤ w.heap.size) :
    Calls Try.prog 19 #[.slice a len cap] w (DrewFill w) := by
  have d0 : Below w.heap.size w (w.alloc (.cells #[.slice none 0 0] 25)) := (Below.refl _ _).alloc (Nat.le_refl _) _
  have bx := BoxN.new w 25 #[.slice none 0 0]
  have hc0 := hc.kept (d0.mono hn)
  have hn0 : n₀ ≤ (w.alloc (.cells #[.slice none 0 0] 25)).heap.size := Nat.le_trans hn d0.size
  have hst := hc0.startS (cap := cap) hn0
  rw [World.size_alloc] at hst
  go_enter Try.func19, Try.ntmps19
  go_wp2_with fail
  refine (new_any n₀ a len cap z _ hc0).mono ?_
  rintro e w1 ⟨rfl, rfl⟩
  have d1 := d0.alloc (by simp) (.cells #[.slice a len cap, .int .i64 0, .int .i64 (startH z len)] 90)
  have bx1 := bx.below ((Below.refl _ _).alloc (Nat.le_refl _) (.cells #[.slice a len cap, .int .i64 0, .int .i64 (startH z len)] 90))
  rw [World.size_alloc]
  generalize (w.alloc (.cells #[.slice none 0 0] 25)).alloc (.cells #[.slice a len cap, .int .i64 0, .int .i64 (startH z len)] 90) = w1 at hst d1 bx1 ⊢
  have hlt := hst.lt
  clear bx d0 hc0 hn0
  go_wp2_with fail
  refine (any_drawn n₀ _ a len cap z _ _ hst).mono ?_
  rintro e w2 ⟨v2, L, s2, hL, rfl, o2, hd2, hg2⟩
  obtain ⟨a2, c2, rfl⟩ := o2.len
  have bx2 := bx1.grown hg2 (by omega)
  have d2 : Below w.heap.size w w2 := d1.trans (grown_below hg2 (by omega) hlt)
  have hs2 := hg2.size
  clear bx1 hst d1 hg2
  have k3 : Below w2.heap.size w2 (w2.alloc (.cells #[.slice a2 L.length c2] 25)) := (Below.refl _ _).alloc (Nat.le_refl _) _
  have p3 : BoxN (w2.alloc (.cells #[.slice a2 L.length c2] 25)) w2.heap.size 25 #[.slice a2 L.length c2] := BoxN.new _ _ _
  have hd3 := hd2.below k3
  have o3 := o2.below k3
  have bx3 := bx2.below k3
  have d3 := bstep d2 k3
  have ss2 := (SegB.of o2).2
  clear hd2 o2 bx2 d2 k3
  go_wp2_with fail
  refine (pc_drawn n₀ _ a len cap z s2 _ hd3).mono ?_
  rintro e w4 ⟨P, s4, hP, rfl, hd4, hg4⟩
  have p4 := p3.grown hg4 (by omega)
  have bx4 := bx3.grown hg4 (by omega)
  have o4 := o3.grown hg4 (by omega)
  have d4 : Below w.heap.size w w4 := d3.trans (grown_below hg4 (by omega) hd3.lt)
  have hs4 := hg4.size
  rw [World.size_alloc] at hs4
  clear p3 bx3 o3 d3 hd3 hg4
  obtain ⟨N, hN0, hN2⟩ : ∃ N : Nat, belowV z len s4 20 = (N : Int) ∧ N < 20 := by
    obtain ⟨u0, u1⟩ := belowV_bound z len s4 20 (by omega)
    exact ⟨(belowV z len s4 20).toNat, by omega, by omega⟩
  go_wp2_with fail
  refine (below_drawn n₀ _ a len cap z s4 20 _ hd4).mono ?_
  rintro e w5 ⟨rfl, hd5, hg5⟩
  rw [hN0]
  have p5 := p4.grown hg5 (by omega)
  have bx5 := bx4.grown hg5 (by omega)
  have o5 := o4.grown hg5 (by omega)
  have d5 : Below w.heap.size w w5 := d4.trans (grown_below hg5 (by omega) hd4.lt)
  have hs5 := hg5.size
  generalize belowS len s4 20 = s5 at hd5
  clear p4 bx4 o4 d4 hd4 hg5 hN0
  go_wp2_with fail
  refine (bytes_drawn n₀ _ a len cap z s5 N (by omega) _ hd5).mono ?_
  rintro e w6 ⟨v6, X, s6, hX, rfl, o6, hd6, hg6⟩
  obtain ⟨a6, c6, rfl⟩ := o6.len
  have p6 := p5.grown hg6 (by omega)
  have bx6 := bx5.grown hg6 (by omega)
  have oL6 := o5.grown hg6 (by omega)
  have d6 : Below w.heap.size w w6 := d5.trans (grown_below hg6 (by omega) hd5.lt)
  have hs6 := hg6.size
  clear p5 bx5 o5 d5 hd5 hg6
  go_wp2_with fail
  refine (once_drawn n₀ _ a len cap z s6 12 _ hd6).mono ?_
  rintro e w7 ⟨rfl, hd7, hg7⟩
  have p7 := p6.grown hg7 (by omega)
  have bx7 := bx6.grown hg7 (by omega)
  have oL7 := oL6.grown hg7 (by omega)
  have o7 := o6.grown hg7 (by omega)
  have d7 : Below w.heap.size w w7 := d6.trans (grown_below hg7 (by omega) hd6.lt)
  have hs7 := hg7.size
  generalize belowS len s6 12 = s7 at hd7
  clear p6 bx6 oL6 o6 d6 hd6 hg7
  cases ho : (belowV z len s6 12 == 0) with
  | false =>
    have c7 := p7.cell 0 (.slice a2 L.length c2) rfl
    have cR := bx7.cell 0 (.slice none 0 0) rfl
    have fR := bx7.frozen 0
    have cR2 := (bx7.set 0 (.slice a2 L.length c2)).cell 0 (.slice a2 L.length c2) rfl
    have HO := Lib.hid (And.intro oL7 o7)
    clear oL7 o7
    go_wp2
    refine bodyPost_ret (v := .tuple #[ramV (.slice a2 L.length c2), .int .u16 P, .slice a6 X.length c6]) (by simp [results, Try.results19, go_sem, cR2]) rfl ⟨_, L, P, _, X, hL, hP, by omega, rfl, ?_, ?_, d7.setCell (Nat.le_refl _) _⟩
    · exact ownB_ne (OwnB.base HO.out.1 (by omega)) (grownB_set _ _ _) (fun t ht => by have := ((World.ownsRow.lt HO.out.1.2) t ht).1; omega)
    · exact ownB_ne (OwnB.base HO.out.2 (by omega)) (grownB_set _ _ _) (fun t ht => by have := ((World.ownsRow.lt HO.out.2.2) t ht).1; omega)
  | true =>
    obtain ⟨K, hK0, hK2⟩ : ∃ K : Nat, belowV z len s7 3 = (K : Int) ∧ K < 3 := by
      obtain ⟨u0, u1⟩ := belowV_bound z len s7 3 (by omega)
      exact ⟨(belowV z len s7 3).toNat, by omega, by omega⟩
    go_wp2_with fail
    refine (below_drawn n₀ _ a len cap z s7 3 _ hd7).mono ?_
    rintro e w8 ⟨rfl, hd8, hg8⟩
    rw [hK0]
    have p8 := p7.grown hg8 (by omega)
    have bx8 := bx7.grown hg8 (by omega)
    have oL8 := oL7.grown hg8 (by omega)
    have d8 : Below w.heap.size w w8 := d7.trans (grown_below hg8 (by omega) hd7.lt)
    have hs8 := hg8.size
    clear p7 bx7 oL7 o7 d7 hd7 hg8 hK0 hd8
    obtain ⟨n, hn'⟩ : ∃ n, 1023 + K = n := ⟨_, rfl⟩
    have hnb : 1023 ≤ n ∧ n ≤ 1025 := by omega
    have y1 : (1023 : Int) + (K : Int) = (n : Int) := by omega
    have hmk : ∀ w : World, (Instr.makeSlice 22 (.int .i64 ((1023 : Int) + (K : Int))) (.int .i64 ((1023 : Int) + (K : Int)))).run Try.prog w = .ok (.slice (some ⟨w.heap.size, 0, none⟩) n n) (w.alloc (.cells (List.replicate n (Value.int .u8 0)).toArray 5)) := fun w => by rw [y1]; exact makeB n (by omega) w
    have d9 : Below w8.heap.size w8 (w8.alloc (.cells (Array.replicate n (Value.int .u8 0)) 5)) := (Below.refl _ _).alloc (Nat.le_refl _) _
    have o9 : OwnB (w8.alloc (.cells (Array.replicate n (Value.int .u8 0)) 5)) w8.heap.size (.slice (some ⟨w8.heap.size, 0, none⟩) n n) (countL n 0) := by
      have := ownNewB w8 (List.replicate n 0) (by rw [List.length_replicate]; unfold maxLen; omega) (fun i hi => by simp [List.getD, List.getElem?_replicate]; split <;> simp)
      simp only [List.length_replicate, List.map_replicate, u8V, List.toArray_replicate] at this
      simpa [countL] using this
    have p9 := p8.below d9
    have bx9 := bx8.below d9
    have oL9 := oL8.below d9
    have e9 := bstep d8 d9
    have hlt8 := p8.lt
    have H0 := Lib.hid (And.intro o9 (And.intro p9 (And.intro bx9 (And.intro oL9 e9))))
    have HSL := Lib.hid (fun t ht => ((World.ownsRow.lt oL8.2) t ht).2)
    clear o9 p9 bx9 oL9 e9 d9 p8 bx8 oL8 d8
    have y0 := Lib.hid y1
    clear y1
    go_wp2
    go_loopw [9] (fun i wr => ∃ (j : Nat), j ≤ n ∧ i = .int .i64 j ∧ Hid (OwnB wr w8.heap.size (.slice (some ⟨w8.heap.size, 0, none⟩) n n) (countL n j) ∧ BoxN wr w2.heap.size 25 #[.slice a2 L.length c2] ∧ BoxN wr w.heap.size 25 #[.slice none 0 0] ∧ OwnB wr w1.heap.size (.slice a2 L.length c2) L ∧ Below w.heap.size w wr)) (fun i _ => n - (intOf i).toNat)
    case atStart => exact ⟨0, Nat.zero_le _, rfl, H0⟩
    case round =>
      obtain ⟨j, hj, rfl, HI⟩ := hrel
      obtain ⟨oX, pM, bM, oM, dM⟩ := HI.out
      by_cases hp : j < n
      · obtain ⟨hcj, hfj⟩ := ownB_cell oX (k := j) (by rw [countL_len hj]; exact hp)
        obtain ⟨y, hy⟩ : ∃ y, (countL n j).getD j 0 = y := ⟨_, rfl⟩
        rw [hy] at hcj
        obtain ⟨x, hx⟩ : ∃ x, j % 256 = x := ⟨_, rfl⟩
        have hx2 : x < 256 := by omega
        have e8 : IntKind.u8.wrap (j : Int) = (x : Int) := by rw [IntKind.wrap_u8]; omega
        have e9 : (j : Int) % 256 = (x : Int) := by omega
        have ij : (0 : Int) ≤ (j : Int) ∧ (j : Int) < (n : Int) := by omega
        obtain ⟨hO5, hg5⟩ := ownB_set (k := j) oX (countL_len hj).symm hx2
        have HO5 := Lib.hid hO5
        have HG5 := Lib.hid hg5
        have HXX := Lib.hid hx
        have HM := Lib.hid oM
        clear hO5 hg5 oX hy HI hx oM
        go_wp2
        go_roundw
        case rel =>
          refine ⟨j + 1, by omega, by go_num, Lib.hid ⟨?_, pM.grown HG5.out (by omega), bM.grown HG5.out (by omega), ownB_ne HM.out HG5.out (fun t ht => by have := HSL.out t ht; omega), dM.setCell (by show w.heap.size ≤ w8.heap.size; omega) _⟩⟩
          rw [← countL_step hp, HXX.out]; exact HO5.out
        case measure => simp [intOf]; omega
      · obtain rfl : j = n := by omega
        have c7 := pM.cell 0 (.slice a2 L.length c2) rfl
        have cR := bM.cell 0 (.slice none 0 0) rfl
        have fR := bM.frozen 0
        have cR2 := (bM.set 0 (.slice a2 L.length c2)).cell 0 (.slice a2 L.length c2) rfl
        have HO := Lib.hid (And.intro oM oX)
        clear oM oX HI
        go_wp2
        refine bodyPost_ret (v := .tuple #[ramV (.slice a2 L.length c2), .int .u16 P, .slice (some ⟨w8.heap.size, 0, none⟩) j j]) (by simp [results, Try.results19, go_sem, cR2]) rfl ⟨_, L, P, _, countL j j, hL, hP, by rw [countL_len (Nat.le_refl _)]; omega, rfl, ?_, ?_, dM.setCell (Nat.le_refl _) _⟩
        · exact ownB_ne (OwnB.base HO.out.1 (by omega)) (grownB_set _ _ _) (fun t ht => by have := ((World.ownsRow.lt HO.out.1.2) t ht).1; omega)
        · exact ownB_ne (OwnB.base HO.out.2 (by omega)) (grownB_set _ _ _) (fun t ht => by have := ((World.ownsRow.lt HO.out.2.2) t ht).1; omega)

end Go.Proofs.Ytppkcljpfjdlnaa
