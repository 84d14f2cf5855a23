/-
  Contracts over the program: impl.Lines and impl.Words give rows of their own that hold the text's lines and words.
-/
import Derived.Test.YtffhjoldiicgdaaParts
import Derived.Maps.AppendAt
namespace Go.Proofs.Ytffhjoldiicgdaa
set_option linter.unusedVariables false
set_option linter.unusedSimpArgs false
open Go.RowKit Go.Shelf

attribute [local go_sem] Oper.semAt_some

theorem isNewline_any (F : Fence) (n : Nat) (c : Int) (w : World) (hF : F.fn 69) (hro : F.round = none) :
    CallsIn F n Try.prog 69 #[.int .i32 c] w fun e w' => e = .returned (.bool (c == 10)) ∧ w = w' := by
  refine callsIn_of_wp Try.func69 rfl hF ?_ hro
  simp only [Try.ntmps69, List.size_toArray, List.length_cons, List.length_nil, Nat.reduceAdd, Nat.reduceSub, Array.replicate_succ, Array.replicate_zero, List.push_toArray, List.append_toArray, List.nil_append, List.cons_append]
  gi_wp2
  go_ret
  exact ⟨rfl, rfl⟩

theorem isBlank_any (F : Fence) (n : Nat) (c : Int) (w : World) (hF : F.fn 95) (hro : F.round = none) :
    CallsIn F n Try.prog 95 #[.int .i32 c] w fun e w' => e = .returned (.bool ((c == 32) || (c == 9))) ∧ w = w' := by
  by_cases h1 : (c == 32) = true
  · refine callsIn_of_wp Try.func95 rfl hF ?_ hro
    simp only [Try.ntmps95, List.size_toArray, List.length_cons, List.length_nil, Nat.reduceAdd, Nat.reduceSub, Array.replicate_succ, Array.replicate_zero, List.push_toArray, List.append_toArray, List.nil_append, List.cons_append]
    gi_wp2
    go_ret
    exact ⟨by simp [h1], rfl⟩
  · have h1' : (c == 32) = false := by simpa using h1
    clear h1
    refine callsIn_of_wp Try.func95 rfl hF ?_ hro
    simp only [Try.ntmps95, List.size_toArray, List.length_cons, List.length_nil, Nat.reduceAdd, Nat.reduceSub, Array.replicate_succ, Array.replicate_zero, List.push_toArray, List.append_toArray, List.nil_append, List.cons_append]
    gi_wp2
    go_ret
    exact ⟨by simp [h1'], rfl⟩

theorem gap_nl : GapFn 69 isNl where
  enters := enters_of Try.func69 (by kernel_rfl) rfl
  low := fun F n c w hF hro _ => by rw [isNl_iff]; exact isNewline_any F n _ w hF hro
  high := fun F n c w hF hro h _ => by
    have e : (c == 10) = false := by rw [beq_eq_false_iff_ne]; omega
    have := isNewline_any F n c w hF hro
    rwa [e] at this
  none := fun c h => by rw [isNl_iff, beq_eq_false_iff_ne]; omega

theorem gap_bl : GapFn 95 isBl where
  enters := enters_of Try.func95 (by kernel_rfl) rfl
  low := fun F n c w hF hro _ => by rw [isBl_iff]; exact isBlank_any F n _ w hF hro
  high := fun F n c w hF hro h _ => by
    have e : ((c == 32) || (c == 9)) = false := by
      rw [Bool.or_eq_false_iff, beq_eq_false_iff_ne, beq_eq_false_iff_ne]; omega
    have := isBlank_any F n c w hF hro
    rwa [e] at this
  none := fun c h => by
    rw [isBl_iff, Bool.or_eq_false_iff, beq_eq_false_iff_ne, beq_eq_false_iff_ne]; omega

theorem parts_in (F : Fence) (n : Nat) (hF : F.fn 68) (hro : F.round = none) (s : ByteArray) (g : Nat) (w : World) :
    CallsIn F n Try.prog 68 #[.string s, .func (.func g) #[] #[]] w fun e w' => e = .returned (.func (.func 94) #[] #[.pointer (some ⟨w.heap.size, 0, none⟩), .pointer (some ⟨w.heap.size + 1, 0, none⟩)]) ∧ (w.alloc (.cells #[.string s] 9)).alloc (.cells #[.func (.func g) #[] #[]] 92) = w' := by
  refine callsIn_of_wp Try.func68 rfl hF ?_ hro
  simp only [Try.ntmps68, List.size_toArray, List.length_cons, List.length_nil, Nat.reduceAdd, Nat.reduceSub, Array.replicate_succ, Array.replicate_zero, List.push_toArray, List.append_toArray, List.nil_append, List.cons_append]
  gi_wp2
  go_ret
  exact ⟨rfl, rfl⟩

/-- The iterator's value keeps its contract. -/
theorem parts_stops (F : Fence) (n : Nat) (hF : ∀ f, F.fn f) (hro : F.round = none) (hn : 1 ≤ n) (Bs g : Nat) (p : UInt8 → Bool) (hg : GapFn g p) (s : ByteArray) (hs : s.size ≤ 1048576) (w : World) (hB : Bs + 1 < w.heap.size)
    (hB0 : Boxed w Bs 9 (.string s)) (hB1 : Boxed w (Bs + 1) 92 (.func (.func g) #[] #[])) :
    SeqStopsK F n Try.prog 94 #[.pointer (some ⟨Bs, 0, none⟩), .pointer (some ⟨Bs + 1, 0, none⟩)] (fun x : ByteArray => #[Value.string x]) (KeepsBoxes Bs) (fun ys => ys = partsOf p s) (fun pre => pre <+: partsOf p s) (partsOf p s).length w :=
  fun l J Jx W hW hJ _ hY h0 => parts1_in F n hF hro hn l Bs g p hg s hs J Jx W hJ hY (Nat.lt_of_lt_of_le hB hW.size) ((hW.block Bs (by omega)).trans hB0) ((hW.block (Bs + 1) hB).trans hB1) h0

/-- A slice in a box ahead of its row is appended to. -/
theorem appended3 {W w1 : World} {n₀ B : Nat} {t e : TypeId} {v v' : Value} {k m : Nat} {xs ys : List Value} {tmp : Obj}
    (hv : Boxed W B t v) (hB : B < n₀) (hrow : W.ownsRow n₀ e 1 v k xs) (hn₀ : n₀ ≤ W.heap.size)
    (hown' : w1.ownsRow n₀ e 1 v' m ys) (hgrow : (W.alloc tmp).grownBy w1 v.ownBlock) :
    Boxed w1 B t v ∧ Boxed (w1.setCell ⟨B, 0, none⟩ v') B t v' ∧ (w1.setCell ⟨B, 0, none⟩ v').ownsRow n₀ e 1 v' m ys ∧ KeepsOthers W (w1.setCell ⟨B, 0, none⟩ v') ∧
      (∀ i, i < n₀ → i ≠ B → (w1.setCell ⟨B, 0, none⟩ v').heap[i]? = W.heap[i]?) ∧ Below B W (w1.setCell ⟨B, 0, none⟩ v') := by
  have hne : some B ≠ v.ownBlock := fun e' => by have := (hrow.lt B e'.symm).1; omega
  have hne' : some B ≠ v'.ownBlock := fun e' => by have := (hown'.lt B e'.symm).1; omega
  have hv1 : Boxed w1 B t v := (hv.alloc tmp).kept hgrow hne
  refine ⟨hv1, hv1.set v', hown'.kept (grownBy_setCell' w1 B v') (.inr (Ne.symm hne')), ?_, ?_, ?_⟩
  · refine ((KeepsOthers.alloc W tmp).trans (KeepsOthers.of_grownBy hgrow fun j o ej hj => ?_)).trans (KeepsOthers.setCell _ _ _)
    rcases (hrow.alloc tmp).2 with ⟨rfl, _⟩ | ⟨g, cap, cur, rfl, _, hgb, _⟩
    · simp [Value.ownBlock] at ej
    · obtain rfl : g = j := by simpa [Value.ownBlock] using ej
      rw [hgb] at hj; cases hj; rfl
  · intro i hi hiB
    rw [Below.heap_setCell _ _ _ _ hiB]
    have h1 : i < W.heap.size := by omega
    rw [hgrow.block i (by simp; omega) (fun e' => by have := (hrow.lt i e'.symm).1; omega)]
    exact Below.heap_alloc W tmp i h1
  · have hBW := hv.lt
    refine (((Below.refl B W).alloc (by omega) tmp).grown hgrow (by simp; omega) fun j ej => ?_).setCell (p := ⟨B, 0, none⟩) (Nat.le_refl _) v'
    have := (hrow.lt j ej).1
    omega

theorem keepsBoxes_of {B Bs n₀ : Nat} {W W' : World} (hk : KeepsOthers W W') (hh : ∀ i, i < n₀ → i ≠ B → W'.heap[i]? = W.heap[i]?) (h1 : Bs + 1 < n₀) (h2 : B < Bs) : KeepsBoxes Bs W W' :=
  ⟨⟨hk.size, fun k o h hw => hk.same k o h (Obj.not_cells_of_walk hw)⟩, hh Bs (by omega) (by omega), hh (Bs + 1) (by omega) (by omega)⟩

/-- The texts that aren't empty. -/
def full (L : List ByteArray) : List ByteArray := L.filter fun x => !x.toList.isEmpty
theorem full_hit (pre : List ByteArray) {x : ByteArray} (h : x.toList.isEmpty = false) : full (pre ++ [x]) = full pre ++ [x] := by simp [full, List.filter_append, h]
theorem full_miss (pre : List ByteArray) {x : ByteArray} (h : x.toList.isEmpty = true) : full (pre ++ [x]) = full pre := by simp [full, List.filter_append, h]

set_option maxRecDepth 100000 in
set_option maxHeartbeats 2000000 in
theorem implWords_in (F : Fence) (n : Nat) (hF : ∀ f, F.fn f) (hro : F.round = none) (hn : 4 ≤ n) (s : ByteArray) (hs : s.size ≤ 1048576) (hlen : (partsOf isBl s).length ≤ 1048577) (w : World) :
    CallsIn F n Try.prog 71 #[.string s] w fun e W' => ∃ v, e = .returned v ∧ W'.ownsRow (w.heap.size + 3) 9 1 v (full (partsOf isBl s)).length ((full (partsOf isBl s)).map Value.string) ∧ Below w.heap.size w W' := by
  have h1 : 1 ≤ n := by omega
  obtain ⟨i0, hi, hz0, hz1, hz2⟩ := info_parts infoStr
  refine callsIn_of_wp_marks Try.func71 rfl (hF _) ?_ hro
  simp only [Try.ntmps71, List.size_toArray, List.length_cons, List.length_nil, Nat.reduceAdd, Nat.reduceSub, Array.replicate_succ, Array.replicate_zero, List.push_toArray, List.append_toArray, List.nil_append, List.cons_append]
  gi_wp2_with (gi_at_call 68; refine (parts_in F (n - 1) (hF _) hro _ _ _).mono ?_; rintro e w' ⟨rfl, rfl⟩)
  have bO := Boxed.new w 32 (.slice none 0 0)
  have bS := Boxed.new (w.alloc (.cells #[.slice none 0 0] 32)) 9 (.string s)
  rw [World.size_alloc] at bS
  have bG := Boxed.new ((w.alloc (.cells #[.slice none 0 0] 32)).alloc (.cells #[.string s] 9)) 92 (.func (.func 95) #[] #[])
  rw [World.size_alloc, World.size_alloc] at bG
  have hB0 : Below w.heap.size w (((w.alloc (.cells #[.slice none 0 0] 32)).alloc (.cells #[.string s] 9)).alloc (.cells #[.func (.func 95) #[] #[]] 92)) := (((Below.refl _ w).alloc (Nat.le_refl _) _).alloc (by simp) _).alloc (by simp; omega) _
  refine wpIn_rangeFunc_ownG hro h1 (gf := 94) (lb := #[.pointer (some ⟨w.heap.size + 1, 0, none⟩), .pointer (some ⟨w.heap.size + 2, 0, none⟩)]) rfl (hF _) (enters_of Try.func94 (by kernel_rfl) rfl)
    (parts_stops F (n - 1) hF hro (by omega) (w.heap.size + 1) 95 isBl gap_bl s hs _ (by simp) (bS.alloc _) bG) keepsBoxes_t (keepsBoxes_b (by first | (simp; done) | (simp; omega))) (Below.refl _ _) (fun _ => rfl)
    (fun pre W => (∃ v, Boxed W w.heap.size 32 v ∧ W.ownsRow (w.heap.size + 3) 9 1 v (full pre).length ((full pre).map Value.string) ∧ True) ∧ Below w.heap.size w W ∧ w.heap.size + 3 ≤ W.heap.size)
    (fun _ _ _ => False)
    (OwnFrom.and (Own.from (holdsRow_own (w.heap.size + 3) w.heap.size 32 9 1 (fun pre => (full pre).length) (fun pre => (full pre).map Value.string) (fun _ _ => True)) _) (OwnFrom.and (ownFrom_below (Nat.le_refl _) (by simp; omega)) (fun _ _ _ _ hs hg _ => Nat.le_trans hs hg.size)))
    (fun _ _ _ _ _ hs _ _ => hs)
    ⟨⟨_, (bO.alloc _).alloc _, World.ownsRow_nil _ _ _ _, trivial⟩, hB0, by simp⟩
    (fun x => { tmps := #[.string s, undef, .slice none 0 0, .pointer (some ⟨w.heap.size, 0, none⟩), .string x, .string s, .func (.func 94) #[] #[.pointer (some ⟨w.heap.size + 1, 0, none⟩), .pointer (some ⟨w.heap.size + 2, 0, none⟩)], .string x, undef, undef, undef, undef, undef, undef, undef], defers := [] }) ?assign ?body ?done ?stop
  case assign =>
    intro l x W K hK
    gi_wp2
    exact hK
  case body =>
    rintro l pre x W ⟨⟨v, hv, hrow, _⟩, hB, h3⟩ hlt
    have hc := hv.cell
    have hpl : (full pre).length ≤ pre.length := List.length_filter_le _ _
    by_cases hx : x.toList.isEmpty = true
    · have hxe : x.toList = [] := by simpa using hx
      have hxb : (!x.toList.isEmpty) = false := by rw [hx]; rfl
      have HX := Lib.hid hx
      clear hx
      gi_wp2
      exact ⟨KeepsFrom.refl _ _, ⟨KeepsWalks.refl _, rfl, rfl⟩, ⟨v, hv, by rw [full_miss pre HX.out]; exact hrow, trivial⟩, hB, h3⟩
    · have hx' : x.toList.isEmpty = false := by simpa using hx
      have hxe : ¬ x.toList = [] := fun e => hx (by rw [e]; rfl)
      have HX := Lib.hid hx'
      clear hx
      gi_wp2_with (gi_at_builtin; refine wpListIn_append_own _ rfl _ _ 32 rfl (w.heap.size + 3) 9 i0 (.string ⟨#[]⟩) 1 16 Try.underlying32 hi hz0 hz1 hz2 rfl (by decide) _ _ _ rfl (hrow.alloc _) ⟨W.heap.size, 0, none⟩ 1 1 [.string x] rfl rfl (cell_one_new _ _ _) (by simp [Value.oneCell']) (by unfold maxLen; omega) (by omega) (by simp; omega) ?_; intro v' w1 hown' hgrow _; obtain ⟨g', cap', rfl⟩ := ownsRow_succ hown'; obtain ⟨hv1, hv2, hr2, hk2, hh2, hb2⟩ := appended3 hv (by omega) hrow h3 hown' hgrow; have hc1 := hv1.cell; have hf1 := hv1.frozen)
      exact ⟨hk2.from _, keepsBoxes_of hk2 hh2 (by omega) (by omega), ⟨_, hv2, by rw [full_hit pre HX.out]; simpa using hr2, trivial⟩, hB.trans hb2, Nat.le_trans h3 hk2.size⟩
  case done =>
    rintro D ys W hD rfl ⟨⟨v, hv, hrow, _⟩, hB, h3⟩ hK
    have hc := hv.cell
    gi_wp2
    refine ⟨by simp, .inl ⟨_, _, rfl, run_takeDeferred hK, ?_⟩⟩
    exact ⟨_, results_tmp rfl _ _ _, v, rfl, ownsRow_putObj hrow _ hK rfl, hB.trans (belowK_b (w := w) (Nat.le_refl _) W D _ _ (by simp at hD; omega) hK rfl rfl)⟩
  case stop =>
    rintro D c pre W _ _ h _
    exact h.elim

theorem addr_add (g j : Nat) : (⟨g, 0, none⟩ : Addr).add j = ⟨g, j, none⟩ := by
  unfold Addr.add; split <;> simp_all

theorem parts_last (p : UInt8 → Bool) (s : ByteArray) : ∃ init x, partsOf p s = init ++ [x] := by
  have hne : partsOf p s ≠ [] := by simp [partsOf, cut_ne]
  exact ⟨_, _, (List.dropLast_concat_getLast hne).symm⟩

theorem lines_last (s : ByteArray) (init : List ByteArray) (x : ByteArray) (h : partsOf isNl s = init ++ [x]) : linesOf s.data.toList = if x.toList.isEmpty = true then init else init ++ [x] := by
  have hl : (cut isNl s.data.toList).length = init.length + 1 := by
    have := congrArg List.length h
    simpa [partsOf] using this
  have hlast : (cut isNl s.data.toList).getLast? = some x.data.toList := by
    have e := congrArg List.getLast? h
    unfold partsOf at e
    rw [List.getLast?_map] at e
    cases hc : (cut isNl s.data.toList).getLast? with
    | none => rw [hc] at e; simp at e
    | some y =>
      rw [hc] at e
      have e' : strOf y = x := by simpa using e
      rw [← e']; rfl
  have hxl : x.toList = x.data.toList := ByteArray.toList_eq x
  have h' : (cut isNl s.data.toList).map strOf = init ++ [x] := h
  unfold linesOf
  rw [h', hl, hlast, hxl]
  by_cases hx : x.data.toList = []
  · rw [hx]; simp
  · rw [if_neg (by simpa using hx), if_neg (by simpa using hx), List.take_of_length_le (by simp)]

set_option maxRecDepth 100000 in
set_option maxHeartbeats 2000000 in
theorem implLines_in (F : Fence) (n : Nat) (hF : ∀ f, F.fn f) (hro : F.round = none) (hn : 4 ≤ n) (s : ByteArray) (hs : s.size ≤ 1048576) (hlen : (partsOf isNl s).length ≤ 1048577) (w : World) :
    CallsIn F n Try.prog 44 #[.string s] w fun e W' => ∃ v, e = .returned v ∧ W'.ownsRow (w.heap.size + 3) 9 1 v (linesOf s.data.toList).length ((linesOf s.data.toList).map Value.string) ∧ Below w.heap.size w W' := by
  have h1 : 1 ≤ n := by omega
  obtain ⟨i0, hi, hz0, hz1, hz2⟩ := info_parts infoStr
  refine callsIn_of_wp_marks Try.func44 rfl (hF _) ?_ hro
  simp only [Try.ntmps44, List.size_toArray, List.length_cons, List.length_nil, Nat.reduceAdd, Nat.reduceSub, Array.replicate_succ, Array.replicate_zero, List.push_toArray, List.append_toArray, List.nil_append, List.cons_append]
  gi_wp2_with (gi_at_call 68; refine (parts_in F (n - 1) (hF _) hro _ _ _).mono ?_; rintro e w' ⟨rfl, rfl⟩)
  have bO := Boxed.new w 32 (.slice none 0 0)
  have bS := Boxed.new (w.alloc (.cells #[.slice none 0 0] 32)) 9 (.string s)
  rw [World.size_alloc] at bS
  have bG := Boxed.new ((w.alloc (.cells #[.slice none 0 0] 32)).alloc (.cells #[.string s] 9)) 92 (.func (.func 69) #[] #[])
  rw [World.size_alloc, World.size_alloc] at bG
  have hB0 : Below w.heap.size w (((w.alloc (.cells #[.slice none 0 0] 32)).alloc (.cells #[.string s] 9)).alloc (.cells #[.func (.func 69) #[] #[]] 92)) := (((Below.refl _ w).alloc (Nat.le_refl _) _).alloc (by simp) _).alloc (by simp; omega) _
  refine wpIn_rangeFunc_ownG hro h1 (gf := 94) (lb := #[.pointer (some ⟨w.heap.size + 1, 0, none⟩), .pointer (some ⟨w.heap.size + 2, 0, none⟩)]) rfl (hF _) (enters_of Try.func94 (by kernel_rfl) rfl)
    (parts_stops F (n - 1) hF hro (by omega) (w.heap.size + 1) 69 isNl gap_nl s hs _ (by simp) (bS.alloc _) bG) keepsBoxes_t (keepsBoxes_b (by first | (simp; done) | (simp; omega))) (Below.refl _ _) (fun _ => rfl)
    (fun (pre : List ByteArray) W => (∃ v, Boxed W w.heap.size 32 v ∧ W.ownsRow (w.heap.size + 3) 9 1 v pre.length (pre.map Value.string) ∧ True) ∧ Below w.heap.size w W ∧ w.heap.size + 3 ≤ W.heap.size)
    (fun _ _ _ => False)
    (OwnFrom.and (Own.from (holdsRow_own (w.heap.size + 3) w.heap.size 32 9 1 (fun pre : List ByteArray => pre.length) (fun pre : List ByteArray => pre.map Value.string) (fun _ _ => True)) _) (OwnFrom.and (ownFrom_below (Nat.le_refl _) (by simp; omega)) (fun _ _ _ _ hs hg _ => Nat.le_trans hs hg.size)))
    (fun _ _ _ _ _ hs _ _ => hs)
    ⟨⟨_, (bO.alloc _).alloc _, World.ownsRow_nil _ _ _ _, trivial⟩, hB0, by simp⟩
    (fun x => { tmps := #[.string s, undef, .slice none 0 0, .pointer (some ⟨w.heap.size, 0, none⟩), .string x, undef, .string s, .func (.func 94) #[] #[.pointer (some ⟨w.heap.size + 1, 0, none⟩), .pointer (some ⟨w.heap.size + 2, 0, none⟩)], .string x, undef, undef, undef, undef, undef, undef, undef, undef, undef, undef, undef, undef, undef, undef, undef, undef], defers := [] }) ?assign ?body ?done ?stop
  case assign =>
    intro l x W K hK
    gi_wp2
    exact hK
  case body =>
    rintro l pre x W ⟨⟨v, hv, hrow, _⟩, hB, h3⟩ hlt
    have hc := hv.cell
    gi_wp2_with (gi_at_builtin; refine wpListIn_append_own _ rfl _ _ 32 rfl (w.heap.size + 3) 9 i0 (.string ⟨#[]⟩) 1 16 Try.underlying32 hi hz0 hz1 hz2 rfl (by decide) _ _ _ rfl (hrow.alloc _) ⟨W.heap.size, 0, none⟩ 1 1 [.string x] rfl rfl (cell_one_new _ _ _) (by simp [Value.oneCell']) (by unfold maxLen; omega) (by omega) (by simp; omega) ?_; intro v' w1 hown' hgrow _; obtain ⟨g', cap', rfl⟩ := ownsRow_succ hown'; obtain ⟨hv1, hv2, hr2, hk2, hh2, hb2⟩ := appended3 hv (by omega) hrow h3 hown' hgrow; have hc1 := hv1.cell; have hf1 := hv1.frozen)
    exact ⟨hk2.from _, keepsBoxes_of hk2 hh2 (by omega) (by omega), ⟨_, hv2, by simpa using hr2, trivial⟩, hB.trans hb2, Nat.le_trans h3 hk2.size⟩
  case done =>
    rintro D ys W hD rfl ⟨⟨v, hv, hrow, _⟩, hB, h3⟩ hK
    have hc := hv.cell
    obtain ⟨init, x, hx⟩ := parts_last isNl s
    have HP := Lib.hid (lines_last s init x hx)
    rw [hx] at hrow hlen
    simp only [List.length_append, List.length_cons, List.length_nil, Nat.zero_add] at hrow hlen
    obtain ⟨g, cap, rfl⟩ := ownsRow_succ hrow
    have hcl : W.cell? ⟨g, init.length, none⟩ = some (.string x) := by
      have := hrow.cells (g := g) rfl init.length (.string x) (by simp)
      rwa [addr_add] at this
    have hcap : init.length + 1 ≤ cap ∧ cap ≤ maxLen := by
      rcases hrow.2 with ⟨h, _⟩ | ⟨g', cap', _, hv', _, _, h1, h2, _⟩
      · cases h
      · cases hv'; exact ⟨h1, h2⟩
    obtain ⟨hcap1, hcap2⟩ := hcap
    unfold maxLen at hcap2
    have hf := hv.frozen
    clear hx
    by_cases hxe : x.toList.isEmpty = true
    · have hxe' : x.toList = [] := by simpa using hxe
      have HX := Lib.hid hxe
      clear hxe
      gi_wp2
      have hne : some w.heap.size ≠ (Value.slice (some ⟨g, 0, none⟩) init.length cap).ownBlock := fun e' => by
        have := (hrow.lt g rfl).1
        simp [Value.ownBlock] at e'
        omega
      have hpop := (ownsRow_pop (size := 1) (last := [.string x]) (xs := init.map Value.string) (by simp) (by simpa using hrow)).kept (grownBy_setCell' W w.heap.size (.slice (some ⟨g, 0, none⟩) init.length cap)) (.inr (Ne.symm hne))
      have hK2 := (KeepsOthers.setCell W ⟨w.heap.size, 0, none⟩ (.slice (some ⟨g, 0, none⟩) init.length cap)).same D _ hK rfl
      refine ⟨by simp, .inl ⟨_, _, rfl, run_takeDeferred hK2, ?_⟩⟩
      refine ⟨_, results_tmp rfl _ _ _, _, rfl, ownsRow_putObj ?_ _ hK2 rfl, (hB.setCell (p := ⟨w.heap.size, 0, none⟩) (Nat.le_refl _) _).trans (belowK_b (w := w) (Nat.le_refl _) _ D _ _ (by simp at hD; omega) hK2 rfl rfl)⟩
      rw [HP.out, if_pos HX.out]
      exact hpop
    · have hxe1 : x.toList.isEmpty = false := by simpa using hxe
      have hxe2 : ¬ x.toList = [] := fun e => hxe (by rw [e]; rfl)
      have HX := Lib.hid hxe1
      clear hxe
      gi_wp2
      refine ⟨by simp, .inl ⟨_, _, rfl, run_takeDeferred hK, ?_⟩⟩
      refine ⟨_, results_tmp rfl _ _ _, _, rfl, ownsRow_putObj ?_ _ hK rfl, hB.trans (belowK_b (w := w) (Nat.le_refl _) W D _ _ (by simp at hD; omega) hK rfl rfl)⟩
      rw [HP.out, if_neg (by rw [HX.out]; simp)]
      simpa using hrow
  case stop =>
    rintro D c pre W _ _ h _
    exact h.elim

theorem parts_length (p : UInt8 → Bool) (s : ByteArray) (hs : s.size ≤ 1048576) : (partsOf p s).length ≤ 1048577 := by
  have h := cut_length p s.data.toList
  have e : s.data.toList.length = s.size := Array.length_toList
  simp only [partsOf, List.length_map]
  omega

theorem words_parts (s : ByteArray) : full (partsOf isBl s) = wordsOf s.data.toList := by
  unfold full partsOf wordsOf
  rw [List.filter_map]
  congr 1
  apply List.filter_congr
  intro x _
  simp only [Function.comp, ByteArray.toList_eq]
  rfl

theorem own_base {w : World} {b b' : Nat} {v : Value} {n : Nat} {xs : List Value} (h : w.ownsRow b' 9 1 v n xs) (hb : b ≤ b') : w.ownsRow b 9 1 v n xs := by
  refine ⟨h.1, ?_⟩
  rcases h.2 with h0 | ⟨g, cap, cur, h1, h2, h3⟩
  · exact .inl h0
  · exact .inr ⟨g, cap, cur, h1, by omega, h3⟩

theorem implWords_any (s : ByteArray) (w : World) (hs : s.size ≤ 1048576) :
    Calls Try.prog 71 #[.string s] w fun e w' => ∃ v, e = .returned v ∧ OwnStrs w' w.heap.size v (wordsOf s.data.toList) ∧ Below w.heap.size w w' := by
  refine (callsIn_wide (n := 9)).1 ((implWords_in Fence.wide 9 (fun _ => trivial) rfl (by omega) s hs (parts_length _ s hs) w).mono fun e w' h => ?_)
  obtain ⟨v, he, ho, hb⟩ := h
  rw [words_parts] at ho
  exact ⟨v, he, own_base ho (by omega), hb⟩

theorem implLines_any (s : ByteArray) (w : World) (hs : s.size ≤ 1048576) :
    Calls Try.prog 44 #[.string s] w fun e w' => ∃ v, e = .returned v ∧ OwnStrs w' w.heap.size v (linesOf s.data.toList) ∧ Below w.heap.size w w' := by
  refine (callsIn_wide (n := 9)).1 ((implLines_in Fence.wide 9 (fun _ => trivial) rfl (by omega) s hs (parts_length _ s hs) w).mono fun e w' h => ?_)
  obtain ⟨v, he, ho, hb⟩ := h
  exact ⟨v, he, own_base ho (by omega), hb⟩

theorem words_len (s : ByteArray) (hs : s.size ≤ 1048576) : (wordsOf s.data.toList).length ≤ 1048577 := by
  rw [← words_parts]
  exact Nat.le_trans (List.length_filter_le _ _) (parts_length _ s hs)

theorem lines_len (s : ByteArray) (hs : s.size ≤ 1048576) : (linesOf s.data.toList).length ≤ 1048577 := by
  unfold linesOf
  rw [List.length_take]
  have := parts_length isNl s hs
  unfold partsOf at this
  omega

end Go.Proofs.Ytffhjoldiicgdaa
