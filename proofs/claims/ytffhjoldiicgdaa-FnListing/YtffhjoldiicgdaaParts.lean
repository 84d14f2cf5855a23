/-
  Contracts over the program: the iterator of impl.parts hands on the parts of its text, in order, whatever the loop's body does that keeps the iterator's own memory.
-/
import Derived.Test.YtffhjoldiicgdaaSpecCut
import Derived.RangeFuncNested
import Derived.RangeFuncBound
import Derived.RangeFuncCalls
import Derived.RangeFuncLeaves
import Derived.RangeFuncBox
import Derived.Shelf.Abstract
import Derived.Shelf.RegionOpen
import Derived.OwnWalkIn
import Derived.TacticsInMore
import Derived.LoopNIn
import Derived.LoopIn
import Derived.Lib.OthersKept
import Derived.WalkSmall
namespace Go.Proofs.Ytffhjoldiicgdaa
set_option linter.unusedVariables false
set_option linter.unusedSimpArgs false
open Go.RowKit Go.Shelf

attribute [local go_sem] Oper.semAt_some

/-- What a round keeps of the iterator's memory: walks, and the two boxes that it has captured. -/
def KeepsBoxes (B : Nat) (W W' : World) : Prop := KeepsWalks W W' ∧ W'.heap[B]? = W.heap[B]? ∧ W'.heap[B + 1]? = W.heap[B + 1]?

theorem keepsBoxes_t {B : Nat} {X Y Z : World} (h : KeepsBoxes B X Y) (k : KeepsBoxes B Y Z) : KeepsBoxes B X Z := ⟨h.1.trans k.1, k.2.1.trans h.2.1, k.2.2.trans h.2.2⟩
theorem keepsBoxes_b {B : Nat} {w : World} (hB : B + 2 ≤ w.heap.size) (W : World) (l : Nat) (o o' : Obj) (hl : w.heap.size ≤ l) (h : W.heap[l]? = some o) (_ : o.isCells = false) (hw : o.isWalk = false) : KeepsBoxes B W (W.putObj l o') :=
  ⟨KeepsWalks.putObj _ h hw, World.putObj_heap_other (by omega), World.putObj_heap_other (by omega)⟩

/-- The parts of a text. -/
def partsOf (p : UInt8 → Bool) (s : ByteArray) : List ByteArray := (cut p s.data.toList).map strOf

/-- The function g tells of every sign whether it is a gap, by p: none of 128 or more is one. -/
structure GapFn (g : Nat) (p : UInt8 → Bool) : Prop where
  enters : ∀ args w, (callFunc g args).run Try.prog w = .ok (.enter g args) w
  low : ∀ (F : Fence) (n : Nat) (c : UInt8) (w : World), F.fn g → F.round = none → c.toNat < 128 → CallsIn F n Try.prog g #[.int .i32 c.toNat] w fun e w' => e = .returned (.bool (p c)) ∧ w = w'
  high : ∀ (F : Fence) (n : Nat) (c : Int) (w : World), F.fn g → F.round = none → 128 ≤ c → c ≤ 2147483647 → CallsIn F n Try.prog g #[.int .i32 c] w fun e w' => e = .returned (.bool false) ∧ w = w'
  none : ∀ c : UInt8, 128 ≤ c.toNat → p c = false

set_option maxRecDepth 100000 in
set_option maxHeartbeats 1000000 in
theorem parts1_in (F : Fence) (n : Nat) (hF : ∀ f, F.fn f) (hro : F.round = none) (hn : 1 ≤ n) (l Bs g : Nat) (p : UInt8 → Bool) (hg : GapFn g p) (s : ByteArray) (hs : s.size ≤ 1048576) (J Jx : List ByteArray → World → Prop)
    (W : World) (hJ : AbidesFrom W.heap.size J)
    (hY : ∀ pre x W1, J pre W1 → pre.length < (partsOf p s).length → YieldAt F (n - 1) Try.prog l #[.string x] W1 fun e W' =>
      (e = .returned (.bool true) ∧ J (pre ++ [x]) W' ∧ KeepsBoxes Bs W1 W') ∨ (e = .returned (.bool false) ∧ Jx (pre ++ [x]) W'))
    (hB : Bs + 1 < W.heap.size)
    (hB0 : Boxed W Bs 9 (.string s)) (hB1 : Boxed W (Bs + 1) 92 (.func (.func g) #[] #[])) (h0 : J [] W) :
    CallsIn F n Try.prog 94 #[.func (.yield l) #[] #[], .pointer (some ⟨Bs, 0, none⟩), .pointer (some ⟨Bs + 1, 0, none⟩)] W fun e W' => (∃ v, e = .returned v) ∧
      ((∃ ys, ys = partsOf p s ∧ J ys W') ∨ (∃ pre, pre <+: partsOf p s ∧ Jx pre W')) := by
  have HL := Lib.hid (show s.data.toList.length = s.size from Array.length_toList)
  have hc0 := hB0.cell
  have hc1 := hB1.cell
  refine callsIn_of_wp Try.func94 rfl (hF _) ?_ hro
  simp only [Try.ntmps94, List.size_toArray, List.length_cons, List.length_nil, Nat.reduceAdd, Nat.reduceSub, Array.replicate_succ, Array.replicate_zero, List.push_toArray, List.append_toArray, List.nil_append, List.cons_append]
  gi_wp2
  gi_loopw [4] (fun beg wr => ∃ (k b : Nat) (pre : List (List UInt8)), b ≤ k ∧ k ≤ s.size ∧ beg = .int .i64 b ∧ wr.heap[W.heap.size]? = some (.stringIter s k) ∧ Boxed wr Bs 9 (.string s) ∧ Boxed wr (Bs + 1) 92 (.func (.func g) #[] #[]) ∧ J (pre.map strOf) wr ∧ Hid (pre ++ cut p (s.data.toList.drop b) = cut p s.data.toList ∧ NoGap p s.data.toList b k)) (fun _ wr => s.size - wr.iterPos W.heap.size)
  case atStart => exact ⟨0, 0, [], Nat.le_refl _, Nat.zero_le _, rfl, World.iter_heap W s 0, hB0.alloc _, hB1.alloc _, hJ _ _ _ none h0 (World.grownBy_alloc W _ none) (fun r e => by cases e), Lib.hid ⟨by simp, NoGap.nil _ _ _⟩⟩
  case round =>
    obtain ⟨k, b, pre, hbk, hks, rfl, hit, hX0, hX1, hJs, H⟩ := hrel
    clear hc0 hc1
    by_cases hp : k < s.size
    · have hIs : W.heap.size ≠ Bs := by omega
      have hIs1 : W.heap.size ≠ Bs + 1 := by omega
      by_cases has : (s[k]'hp).toNat < 128
      · obtain ⟨W2, hnx, hit2, hY0, hY1, hJ2⟩ : ∃ W2 : World, (∀ ty, (Instr.next (.pointer (some ⟨W.heap.size, 0, none⟩)) true ty).run Try.prog wr = .ok (.tuple #[.bool true, .int .i64 k, .int .i32 (s[k]'hp).toNat]) W2) ∧ W2.heap[W.heap.size]? = some (.stringIter s (k + 1)) ∧ Boxed W2 Bs 9 (.string s) ∧ Boxed W2 (Bs + 1) 92 (.func (.func g) #[] #[]) ∧ J (pre.map strOf) W2 :=
          ⟨_, fun ty => Lib.run_next_ascii_at wr _ s k ty hit hp has, Lib.iterAt_heap wr _ s k _ hit, (Lib.iterAt_other wr _ _ s _ (Ne.symm hIs)).trans hX0, (Lib.iterAt_other wr _ _ s _ (Ne.symm hIs1)).trans hX1, hJ _ _ _ (some W.heap.size) hJs ⟨rfl, rfl, rfl, by rw [Lib.iterAt_size]; exact Nat.le_refl _, fun i _ hne => Lib.iterAt_other wr _ i s _ (fun e => hne (by rw [e]))⟩ (fun r e => by cases e; exact ⟨Nat.le_refl _, _, hit, rfl⟩)⟩
        have hd0 := hY0.cell
        have hd1 := hY1.cell
        have HP := Lib.hid (iterPos_of hit)
        have hen := hg.enters
        by_cases hpk : p (s[k]'hp) = true
        · have HP2 := Lib.hid hpk
          have HC := Lib.hid (cut_at p s.data.toList b k hbk (by rw [HL.out]; exact hp) H.out.2 (by rw [getD_at s k hp]; exact hpk))
          have hlen : (pre.map strOf).length < (partsOf p s).length := by
            have e := congrArg List.length H.out.1
            rw [HC.out] at e
            simp [partsOf] at e ⊢
            omega
          have HX := Lib.hid (extract_part s b k)
          obtain ⟨fn, tmps, assign, body, hy, hR⟩ := hY (pre.map strOf) (s.extract b k) W2 hJ2 hlen
          have HLEN := Lib.hid hlen
          clear hpk hlen
          gi_wp2_with fail
          refine (hg.low F (n - 1) _ W2 (hF _) hro has).mono ?_
          rintro e w' ⟨rfl, rfl⟩
          rw [HP2.out]
          gi_wp2
          refine hR.mono ?_
          rintro e W3 (⟨rfl, hJ3, hk3⟩ | ⟨rfl, hJx3⟩)
          · have hit3 := hk3.1.same _ _ hit2 rfl
            have hZ0 : Boxed W3 Bs 9 (.string s) := hk3.2.1.trans hY0
            have hZ1 : Boxed W3 (Bs + 1) 92 (.func (.func g) #[] #[]) := hk3.2.2.trans hY1
            gi_wp2
            go_roundw
            case rel =>
              refine ⟨k + 1, k + 1, pre ++ [(s.data.toList.drop b).take (k - b)], Nat.le_refl _, by omega, by go_num, hit3, hZ0, hZ1, ?_, Lib.hid ⟨?_, NoGap.nil _ _ _⟩⟩
              · rw [HX.out] at hJ3
                simpa using hJ3
              · rw [← H.out.1, HC.out]; simp
            case measure => rw [iterPos_of hit3, HP.out]; omega
          · gi_wp2
            refine bodyPost_ret (results_none rfl _ _ _) rfl ?_
            refine ⟨⟨_, rfl⟩, .inr ⟨_, ?_, hJx3⟩⟩
            refine ⟨(cut p (s.data.toList.drop (k + 1))).map strOf, ?_⟩
            unfold partsOf
            rw [← H.out.1, HC.out, HX.out]
            simp
        · have hpk' : p (s[k]'hp) = false := by simpa using hpk
          have HP2 := Lib.hid hpk'
          clear hpk hpk'
          gi_wp2_with fail
          refine (hg.low F (n - 1) _ W2 (hF _) hro has).mono ?_
          rintro e w' ⟨rfl, rfl⟩
          rw [HP2.out]
          gi_wp2
          go_roundw
          case rel => exact ⟨k + 1, b, pre, by omega, by omega, rfl, hit2, hY0, hY1, hJ2, Lib.hid ⟨H.out.1, H.out.2.step (k + 1) (fun j h1 h2 => by rw [show j = k by omega, getD_at s k hp]; exact HP2.out)⟩⟩
          case measure => rw [iterPos_of hit2, HP.out]; omega
      · have hdh := decode_high s k hp (by omega)
        have hle := decode_le s k
        have HW := Lib.hid (decode_wide s k hp (by omega))
        have hwd : k + (Utf8.decode s k).2 ≤ s.size := by have := HW.out ((Utf8.decode s k).2 - 1) (by omega); omega
        obtain ⟨W2, hnx, hit2, hY0, hY1, hJ2⟩ : ∃ W2 : World, (∀ ty, (Instr.next (.pointer (some ⟨W.heap.size, 0, none⟩)) true ty).run Try.prog wr = .ok (.tuple #[.bool true, .int .i64 k, .int .i32 (Utf8.decode s k).1]) W2) ∧ W2.heap[W.heap.size]? = some (.stringIter s (k + (Utf8.decode s k).2)) ∧ Boxed W2 Bs 9 (.string s) ∧ Boxed W2 (Bs + 1) 92 (.func (.func g) #[] #[]) ∧ J (pre.map strOf) W2 :=
          ⟨_, fun ty => Lib.run_next_any_at wr _ s k ty hit hp, Lib.iterAt_heap wr _ s k _ hit, (Lib.iterAt_other wr _ _ s _ (Ne.symm hIs)).trans hX0, (Lib.iterAt_other wr _ _ s _ (Ne.symm hIs1)).trans hX1, hJ _ _ _ (some W.heap.size) hJs ⟨rfl, rfl, rfl, by rw [Lib.iterAt_size]; exact Nat.le_refl _, fun i _ hne => Lib.iterAt_other wr _ i s _ (fun e => hne (by rw [e]))⟩ (fun r e => by cases e; exact ⟨Nat.le_refl _, _, hit, rfl⟩)⟩
        have hd0 := hY0.cell
        have hd1 := hY1.cell
        have HP := Lib.hid (iterPos_of hit)
        have hen := hg.enters
        gi_wp2_with fail
        refine (hg.high F (n - 1) _ W2 (hF _) hro (by omega) (by omega)).mono ?_
        rintro e w' ⟨rfl, rfl⟩
        gi_wp2
        go_roundw
        case rel => exact ⟨k + (Utf8.decode s k).2, b, pre, by omega, hwd, rfl, hit2, hY0, hY1, hJ2, Lib.hid ⟨H.out.1, H.out.2.step _ (fun j h1 h2 => hg.none _ (by have := (HW.out (j - k) (by omega)).2; rw [show k + (j - k) = j by omega] at this; exact this))⟩⟩
        case measure => rw [iterPos_of hit2, HP.out]; omega
    · obtain rfl : k = s.size := by omega
      have hnx := fun ty => Lib.run_next_end_at (P := Try.prog) wr W.heap.size s s.size ty hit hp
      have HC := Lib.hid (cut_end p s.data.toList b (by rw [HL.out]; exact H.out.2))
      have hlen : (pre.map strOf).length < (partsOf p s).length := by
        have e := congrArg List.length H.out.1
        rw [HC.out] at e
        simp [partsOf] at e ⊢
        omega
      have HX := Lib.hid (extract_rest s b)
      have HE := Lib.hid (show pre.map strOf ++ [s.extract b s.size] = partsOf p s by
        unfold partsOf
        rw [← H.out.1, HC.out, HX.out]; simp)
      obtain ⟨fn, tmps, assign, body, hy, hR⟩ := hY (pre.map strOf) (s.extract b s.size) wr hJs hlen
      have hd0 := hX0.cell
      clear hlen
      gi_wp2
      refine hR.mono ?_
      rintro e W3 (⟨rfl, hJ3, hk3⟩ | ⟨rfl, hJx3⟩)
      · gi_wp2
        go_end0
        exact ⟨⟨_, rfl⟩, .inl ⟨_, HE.out, hJ3⟩⟩
      · gi_wp2
        go_end0
        exact ⟨⟨_, rfl⟩, .inr ⟨_, by rw [HE.out]; exact List.prefix_refl _, hJx3⟩⟩

end Go.Proofs.Ytffhjoldiicgdaa
