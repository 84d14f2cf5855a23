/-
  The model's bus: a box that holds a memory's row and a row of cycles; what a call over it may change.
-/
import Derived.Test.YtckfdbjjjgfbfaaUAluA
import Derived.Test.YtckfdbjjjgfbfaaURamB
import Derived.Test.YtckfdbjjjgfbfaaUSpan
import Derived.Deep.AppendLies
namespace Go.Proofs.Ytckfdbjjjgfbfaa
set_option linter.unusedVariables false
set_option linter.unusedSimpArgs false
open Go.RowKit

/-- What a call may change: only the blocks in F. -/
structure Turn (F : Nat → Prop) (w w' : World) : Prop where
  os : w'.os = w.os
  tape : w'.tape = w.tape
  output : w'.output = w.output
  size : w.heap.size ≤ w'.heap.size
  block : ∀ i, i < w.heap.size → ¬ F i → w'.heap[i]? = w.heap[i]?

theorem Turn.refl (F : Nat → Prop) (w : World) : Turn F w w := ⟨rfl, rfl, rfl, Nat.le_refl _, fun _ _ _ => rfl⟩
theorem Turn.trans {F : Nat → Prop} {a b c : World} (h : Turn F a b) (k : Turn F b c) : Turn F a c :=
  ⟨k.os.trans h.os, k.tape.trans h.tape, k.output.trans h.output, Nat.le_trans h.size k.size, fun i hi hn => (k.block i (Nat.lt_of_lt_of_le hi h.size) hn).trans (h.block i hi hn)⟩
theorem Turn.mono {F G : Nat → Prop} {a b : World} (h : Turn F a b) (hs : ∀ i, i < a.heap.size → F i → G i) : Turn G a b :=
  ⟨h.os, h.tape, h.output, h.size, fun i hi hn => h.block i hi (fun hf => hn (hs i hi hf))⟩
theorem Turn.of_below {F : Nat → Prop} {a b : World} (h : Below a.heap.size a b) : Turn F a b := ⟨h.os, h.tape, h.output, h.size, fun i hi _ => h.block i hi⟩
theorem Turn.of_grown {F : Nat → Prop} {a b : World} {r : Option Nat} (h : a.grownBy b r) (hg : ∀ g, r = some g → F g) : Turn F a b :=
  ⟨h.os, h.tape, h.output, h.size, fun i hi hn => h.block i hi (fun e => hn (hg i e.symm))⟩
theorem Turn.set {F : Nat → Prop} (w : World) (B k : Nat) (v : Value) (hF : F B) : Turn F w (w.setCell ⟨B, k, none⟩ v) :=
  ⟨rfl, rfl, rfl, by simp, fun i _ hn => Below.heap_setCell _ _ _ _ (by show i ≠ B; intro e; subst e; exact hn hF)⟩
theorem Turn.below {F : Nat → Prop} {a b : World} {n : Nat} (h : Turn F a b) (h1 : ∀ i, i < n → ¬ F i) (h2 : n ≤ a.heap.size) : Below n a b :=
  ⟨h.os, h.tape, h.output, h.size, fun i hi => h.block i (by omega) (h1 i hi)⟩
theorem BoxN.turn {F : Nat → Prop} {w w1 : World} {B : Nat} {t : TypeId} {cs : Array Value} (h : BoxN w B t cs) (ht : Turn F w w1) (hd : ¬ F B) : BoxN w1 B t cs := (ht.block B h.lt hd).trans h

/-- A row of cycles of its own. -/
def OwnC (w : World) (base : Nat) (v : Value) (L : List CycN) : Prop := w.ownsRow base 105 3 v L.length (L.flatMap cycCells)

/-- The model's bus at B, all its blocks in F. -/
def BusAt (w : World) (F : Nat → Prop) (B : Nat) (b : BusN) : Prop :=
  ∃ g cap v, BoxN w B 117 #[.slice (some ⟨g, 0, none⟩) b.mem.length cap, v] ∧ OwnB w 0 (.slice (some ⟨g, 0, none⟩) b.mem.length cap) b.mem ∧ OwnC w 0 v b.log ∧
    F B ∧ F g ∧ g ≠ B ∧ ∀ k, v.ownBlock = some k → F k ∧ k ≠ B ∧ k ≠ g

/-- A right memory, and not more cycles than so many. -/
def BusN.fit (b : BusN) (k : Nat) : Prop := ramN b.mem.length = true ∧ b.log.length ≤ k

theorem BusN.fit.rd {b : BusN} {k a : Nat} (h : b.fit k) : (b.rd a).fit (k + 1) := ⟨h.1, by simp [BusN.rd]; exact h.2⟩
theorem BusN.fit.put {b : BusN} {k a d : Nat} (h : b.fit k) : (b.put a d).fit (k + 1) := ⟨by simp [BusN.put]; exact h.1, by simp [BusN.put]; exact h.2⟩
theorem BusN.fit.mono {b : BusN} {k l : Nat} (h : b.fit k) (hl : k ≤ l) : b.fit l := ⟨h.1, Nat.le_trans h.2 hl⟩
theorem BusN.fit.spot {b : BusN} {k : Nat} (h : b.fit k) (a : Nat) : b.spot a < b.mem.length := Nat.mod_lt _ (by have := ramN_pos h.1; omega)

theorem BusAt.byte {w : World} {F : Nat → Prop} {B : Nat} {b : BusN} (h : BusAt w F B b) (a : Nat) : b.get a < 256 := by
  obtain ⟨g, cap, v, _, ho, _⟩ := h
  exact ho.row.2.byte' _

theorem BusAt.less {w : World} {F G : Nat → Prop} {B : Nat} {b : BusN} (h : BusAt w F B b) (hs : ∀ i, i < w.heap.size → F i → G i) : BusAt w G B b := by
  obtain ⟨g, cap, v, hb, ho, hc, fB, fg, hne, fv⟩ := h
  exact ⟨g, cap, v, hb, ho, hc, hs _ hb.lt fB, hs _ ((World.ownsRow.lt ho.2) g rfl).2 fg, hne, fun k ek => ⟨hs _ ((World.ownsRow.lt hc) k ek).2 (fv k ek).1, (fv k ek).2⟩⟩

theorem ownC_below {w w' : World} {base : Nat} {v : Value} {L : List CycN} (h : OwnC w base v L) (hb : Below w.heap.size w w') : OwnC w' base v L := by
  refine World.ownsRow.kept h (row := none) ⟨hb.os, hb.tape, hb.output, hb.size, fun i hi _ => hb.block i hi⟩ ?_
  cases v.ownBlock <;> simp

theorem BusAt.below {w w' : World} {F : Nat → Prop} {B : Nat} {b : BusN} (h : BusAt w F B b) (hb : Below w.heap.size w w') : BusAt w' F B b := by
  obtain ⟨g, cap, v, hx, ho, hc, rest⟩ := h
  exact ⟨g, cap, v, hx.below hb, ho.below hb, ownC_below hc hb, rest⟩

theorem infoCyc : (Try.prog.info? 105).map (fun i => (i.zero, i.size, i.bytes)) = some (some (.agg #[.int .u16 0, .int .u8 0, .bool false]), 3, 4) := by kernel_rfl

theorem cell_three_new (w : World) (x y z : Value) (t : TypeId) : ∀ j u, [x, y, z][j]? = some u → (w.alloc (.cells #[x, y, z] t)).cell? ((⟨w.heap.size, 0, none⟩ : Addr).add j) = some u := by
  intro j u hj
  match j, hj with
  | 0, hj => simp at hj; subst hj; simp [Addr.add]
  | 1, hj => simp at hj; subst hj; simp [Addr.add]
  | 2, hj => simp at hj; subst hj; simp [Addr.add]
  | j + 3, hj => simp at hj

theorem grownBy_set1 (w : World) (B k : Nat) (v : Value) : w.grownBy (w.setCell ⟨B, k, none⟩ v) (some B) :=
  ⟨rfl, rfl, rfl, by simp, fun i _ hn => Below.heap_setCell _ _ _ _ (by show i ≠ B; intro e; subst e; exact hn rfl)⟩

/-- A cycle put behind the others: where the box and the rows lie then. -/
theorem bus_step {w w0 w4 : World} {F : Nat → Prop} {B g cap : Nat} {v v' : Value} {M : List Nat} {L : List CycN} {c : CycN}
    (hb : BoxN w B 117 #[.slice (some ⟨g, 0, none⟩) M.length cap, v]) (ho : OwnB w 0 (.slice (some ⟨g, 0, none⟩) M.length cap) M) (hc : OwnC w 0 v L)
    (fB : F B) (fg : F g) (hne : g ≠ B) (fv : ∀ k, v.ownBlock = some k → F k ∧ k ≠ B ∧ k ≠ g) (hF : ∀ i, w.heap.size ≤ i → F i)
    (h0 : Below w.heap.size w w0) (hgrow : w0.grownBy w4 v.ownBlock) (hown : w4.ownsRow 0 105 3 v' (L.length + 1) (L.flatMap cycCells ++ cycCells c)) (hnew : ∀ k, v'.ownBlock = some k → v.ownBlock = some k ∨ w0.heap.size ≤ k) :
    BoxN w4 B 117 #[.slice (some ⟨g, 0, none⟩) M.length cap, v] ∧ OwnB w4 0 (.slice (some ⟨g, 0, none⟩) M.length cap) M ∧ BusAt (w4.setCell ⟨B, 1, none⟩ v') F B ⟨M, L ++ [c]⟩ ∧ Turn F w (w4.setCell ⟨B, 1, none⟩ v') := by
  have hgl := ((World.ownsRow.lt ho.2) g rfl).2
  have b4 : BoxN w4 B 117 #[.slice (some ⟨g, 0, none⟩) M.length cap, v] := by
    have hbl := (hb.below h0).lt
    exact (hgrow.block B hbl (fun e => (fv B e.symm).2.1 rfl)).trans (hb.below h0)
  have o4 : OwnB w4 0 (.slice (some ⟨g, 0, none⟩) M.length cap) M := by
    refine ⟨ho.1, World.ownsRow.kept (ho.below h0).2 hgrow ?_⟩
    exact .inr (fun e => (fv g e.symm).2.2 rfl)
  have n4 : ∀ k, v'.ownBlock = some k → F k ∧ k ≠ B ∧ k ≠ g := fun k ek => by
    rcases hnew k ek with h | h
    · exact fv k h
    · have h1 := hb.lt
      have h2 := h0.size
      exact ⟨hF k (by omega), by omega, by omega⟩
  have t4 : Turn F w w4 := (Turn.of_below h0).trans (Turn.of_grown hgrow (fun k ek => (fv k ek).1))
  refine ⟨b4, o4, ⟨g, cap, v', ?_, ?_, ?_, fB, fg, hne, n4⟩, t4.trans (Turn.set _ _ _ _ fB)⟩
  · exact b4.set 1 v'
  · exact ownB_ne o4 (grownBy_set1 w4 B 1 v') (fun k ek => by simp [Value.ownBlock] at ek; omega)
  · have e : (L ++ [c]).flatMap cycCells = L.flatMap cycCells ++ cycCells c := by simp
    unfold OwnC
    rw [e, show (L ++ [c]).length = L.length + 1 by simp]
    refine World.ownsRow.kept hown (grownBy_set1 w4 B 1 v') ?_
    cases hv : v'.ownBlock with
    | none => exact .inl rfl
    | some k => exact .inr (by simpa using (n4 k hv).2.1)

set_option maxRecDepth 100000 in
theorem rd_any (F : Nat → Prop) (B : Nat) (b : BusN) (a : Nat) (ha : a < 200000) (hf : b.fit 30) (w : World) (hF : ∀ i, w.heap.size ≤ i → F i) (h : BusAt w F B b) :
    Calls Try.prog 69 #[.pointer (some ⟨B, 0, none⟩), .int .i64 a] w fun e w' => e = .returned (.int .u8 (b.get a)) ∧ BusAt w' F B (b.rd a) ∧ Turn F w w' := by
  obtain ⟨i0, hi, hz0, hz1, hz2⟩ := info_parts infoCyc
  obtain ⟨g, cap, v, hb, ho, hc, fB, fg, hne, fv⟩ := h
  have hsp := hf.spot a
  obtain ⟨n, hn⟩ : ∃ n, b.mem.length = n := ⟨_, rfl⟩
  have hA : bits .and .i64 (a : Int) 65535 = ((a % 65536 : Nat) : Int) := by
    have := and_i64_any (a : Int) 16 (by omega)
    simp at this
    omega
  have hn0 : ¬ ((n : Int) = 0) := by have := ramN_pos hf.1; omega
  have hnz : ((n : Int) == 0) = false := by simpa using hn0
  have c0 := hb.cell 0 _ rfl
  have c1 := hb.cell 1 _ rfl
  have f1 := hb.frozen 1
  have k1 := (ownB_cell ho hsp).1
  have hr : ((a % 65536 : Nat) : Int).tmod (n : Int) = ((b.spot a : Nat) : Int) := by rw [← Int.ofNat_tmod, ← hn]; rfl
  have hsn := hsp
  rw [hn] at hsn c0
  obtain ⟨x, hx⟩ : ∃ x, b.spot a = x := ⟨_, rfl⟩
  have hd : b.mem.getD x 0 = b.get a := by rw [← hx]; rfl
  rw [hx] at hr k1 hsn
  rw [hd] at k1
  have hdb : b.get a < 256 := by rw [← hd]; exact ho.row.2.byte' _
  obtain ⟨d, hdd⟩ : ∃ d, b.get a = d := ⟨_, rfl⟩
  rw [hdd] at k1 hdb ⊢
  obtain ⟨y, hy⟩ : ∃ y, a % 65536 = y := ⟨_, rfl⟩
  have hyb : y < 65536 := by omega
  rw [hy] at hA hr
  have HN := Lib.hid hn
  have HX := Lib.hid hx
  have HD := Lib.hid hdd
  have HY := Lib.hid hy
  have hnm : n ≤ 4096 := by rw [← hn]; exact (ramN_pos hf.1).2
  have w0' : IntKind.i64.wrap (n : Int) = (n : Int) := IntWalk.i64_in _ (by omega)
  have w1' : IntKind.i64.wrap (y : Int) = (y : Int) := IntWalk.i64_in _ (by omega)
  have w3' : IntKind.i64.wrap (x : Int) = (x : Int) := IntWalk.i64_in _ (by omega)
  have ik : (0 : Int) ≤ (x : Int) ∧ (x : Int) < (n : Int) := by omega
  have c0' : w.cell? ⟨B, 0, none⟩ = some (.slice (some ⟨g, 0, none⟩) n cap) := c0
  have c1' : w.cell? ⟨B, 1, none⟩ = some v := c1
  clear hn hx hd hdd hy hsp c0 c1
  go_enter Try.func69, Try.ntmps69
  go_wp2_with fail
  go_quiet (fail)
  go_wp2_with (at_builtin; refine wpList_append_lies _ rfl _ _ 31 rfl 0 105 i0 (.agg #[.int .u16 0, .int .u8 0, .bool false]) 3 4 Try.underlying31 hi hz0 hz1 hz2 rfl (by decide) _ _ _ rfl (World.ownsRow.alloc (ownC_below hc (below_drewN (Below.refl _ _) _)) _) ⟨w.heap.size, 0, none⟩ 1 1 (cycCells ⟨y, d, false⟩) rfl rfl ?c2 ?c6 (by decide) ?c3 ?c4 ?c5 _ rfl ?_)
  case c2 =>
    intro j u hj
    have := cell_three_new (w.drewN nq) _ _ _ 105 j u hj
    rw [show (w.drewN nq).heap.size = w.heap.size by simp] at this
    exact this
  case c6 => intro u hu; simp [cycCells] at hu; rcases hu with rfl | rfl | rfl <;> rfl
  case c3 => unfold maxLen; have := hf.2; omega
  case c4 => have := hf.2; omega
  case c5 => exact Nat.zero_le _
  intro g' cap' w4 hown' hgrow hat _
  have hfin := bus_step (c := ⟨y, d, false⟩) hb ho hc fB fg hne fv hF ((below_drewN (Below.refl _ _) nq).alloc (by simp) _) hgrow hown' (fun k ek => by
    simp only [Value.ownBlock, Option.some.injEq] at ek; subst ek
    rcases hat with h | h
    · exact .inl h
    · exact .inr (by simp; omega))
  have c4 := hfin.1.cell 1 v rfl
  have f4 := hfin.1.frozen 1
  have HF := Lib.hid hfin.2.2
  clear hfin hown' hgrow hat
  go_wp2
  go_ret
  refine ⟨rfl, ?_⟩
  have := HF.out
  unfold BusN.rd
  rw [HY.out, HD.out]
  exact this

set_option maxRecDepth 100000 in
theorem wr_any (F : Nat → Prop) (B : Nat) (b : BusN) (a d : Nat) (ha : a < 200000) (hdb : d < 256) (hf : b.fit 30) (w : World) (hF : ∀ i, w.heap.size ≤ i → F i) (h : BusAt w F B b) :
    Calls Try.prog 78 #[.pointer (some ⟨B, 0, none⟩), .int .i64 a, .int .u8 d] w fun e w' => e = .returned (.tuple #[]) ∧ BusAt w' F B (b.put a d) ∧ Turn F w w' := by
  obtain ⟨i0, hi, hz0, hz1, hz2⟩ := info_parts infoCyc
  obtain ⟨g, cap, v, hb, ho, hc, fB, fg, hne, fv⟩ := h
  have hsp := hf.spot a
  obtain ⟨n, hn⟩ : ∃ n, b.mem.length = n := ⟨_, rfl⟩
  have hA : bits .and .i64 (a : Int) 65535 = ((a % 65536 : Nat) : Int) := by
    have := and_i64_any (a : Int) 16 (by omega)
    simp at this
    omega
  have hn0 : ¬ ((n : Int) = 0) := by have := ramN_pos hf.1; omega
  have hnz : ((n : Int) == 0) = false := by simpa using hn0
  have c0 := hb.cell 0 _ rfl
  have k1 := (ownB_cell ho hsp).1
  have k2 := (ownB_cell ho hsp).2
  have hr : ((a % 65536 : Nat) : Int).tmod (n : Int) = ((b.spot a : Nat) : Int) := by rw [← Int.ofNat_tmod, ← hn]; rfl
  have hsn := hsp
  rw [hn] at hsn c0
  obtain ⟨x, hx⟩ : ∃ x, b.spot a = x := ⟨_, rfl⟩
  rw [hx] at hr k1 k2 hsn
  obtain ⟨y, hy⟩ : ∃ y, a % 65536 = y := ⟨_, rfl⟩
  have hyb : y < 65536 := by omega
  rw [hy] at hA hr
  have hnm : n ≤ 4096 := by rw [← hn]; exact (ramN_pos hf.1).2
  have w0' : IntKind.i64.wrap (n : Int) = (n : Int) := IntWalk.i64_in _ (by omega)
  have w1' : IntKind.i64.wrap (y : Int) = (y : Int) := IntWalk.i64_in _ (by omega)
  have w3' : IntKind.i64.wrap (x : Int) = (x : Int) := IntWalk.i64_in _ (by omega)
  have ik : (0 : Int) ≤ (x : Int) ∧ (x : Int) < (n : Int) := by omega
  have c0' : w.cell? ⟨B, 0, none⟩ = some (.slice (some ⟨g, 0, none⟩) n cap) := c0
  have hn2 : ¬ n = 0 := by omega
  have HN := Lib.hid hn
  have HX := Lib.hid hx
  have HY := Lib.hid hy
  clear hn hx hy hsp c0
  go_enter Try.func78, Try.ntmps78
  go_wp2_with fail
  go_still_tail 13, (by kernel_rfl)
  change wpList _ _ _ _ _ w.drew
  have P : Below w.heap.size w w.drew := (Below.refl _ _).drew
  have hb1 := hb.below P
  have ho1 := ho.below P
  have hc1 := ownC_below hc P
  have k1' : w.drew.cell? ⟨g, x, none⟩ = some _ := k1
  have k2' : w.drew.frozen? ⟨g, x, none⟩ = false := k2
  have hz : w.drew.heap.size = w.heap.size := rfl
  have tP : Turn F w w.drew := Turn.of_below P
  clear hb ho hc k1 k2 P c0'
  generalize w.drew = w1 at hb1 ho1 hc1 k1' k2' hz tP ⊢
  obtain ⟨o2, g2⟩ := ownB_set (k := x) ho1 rfl hdb
  have b2 : BoxN (w1.setCell ⟨g, x, none⟩ (.int .u8 (d : Int))) B 117 #[.slice (some ⟨g, 0, none⟩) b.mem.length cap, v] := (g2.block B hb1.lt (by simp; omega)).trans hb1
  have q2 : OwnC (w1.setCell ⟨g, x, none⟩ (.int .u8 (d : Int))) 0 v b.log := by
    refine World.ownsRow.kept hc1 g2 ?_
    cases hv : v.ownBlock with
    | none => exact .inl rfl
    | some k => exact .inr (by simpa using (fv k hv).2.2)
  have t2 : Turn F w (w1.setCell ⟨g, x, none⟩ (.int .u8 (d : Int))) := tP.trans (Turn.set _ _ _ _ fg)
  have c1 := b2.cell 1 v rfl
  have hzz : (w1.setCell ⟨g, x, none⟩ (.int .u8 (d : Int))).heap.size = w.heap.size := by simp [hz]
  have HS := Lib.hid (And.intro o2 (And.intro b2 t2))
  clear o2 g2 b2 t2 hb1 ho1 hc1 tP
  go_wp2_with (at_builtin; refine wpList_append_lies _ rfl _ _ 31 rfl 0 105 i0 (.agg #[.int .u16 0, .int .u8 0, .bool false]) 3 4 Try.underlying31 hi hz0 hz1 hz2 rfl (by decide) _ _ _ rfl (World.ownsRow.alloc q2 _) ⟨w.heap.size, 0, none⟩ 1 1 (cycCells ⟨y, d, true⟩) rfl rfl ?c2 ?c6 (by decide) ?c3 ?c4 ?c5 _ rfl ?_)
  case c2 =>
    intro j u hj
    have := cell_three_new (w1.setCell ⟨g, x, none⟩ (.int .u8 (d : Int))) _ _ _ 105 j u hj
    rw [hzz] at this
    exact this
  case c6 => intro u hu; simp [cycCells] at hu; rcases hu with rfl | rfl | rfl <;> rfl
  case c3 => unfold maxLen; have := hf.2; omega
  case c4 => have := hf.2; omega
  case c5 => exact Nat.zero_le _
  intro g' cap' w4 hown' hgrow hat _
  have hlen : (b.mem.set x d).length = b.mem.length := List.length_set
  have hfin := bus_step (c := ⟨y, d, true⟩) (M := b.mem.set x d) (by rw [hlen]; exact HS.out.2.1) (by rw [hlen]; exact HS.out.1) q2 fB fg hne fv (fun i hi => hF i (by rw [← hzz]; exact hi)) ((Below.refl _ _).alloc (Nat.le_refl _) _) hgrow hown' (fun k ek => by
    simp only [Value.ownBlock, Option.some.injEq] at ek; subst ek
    rcases hat with h | h
    · exact .inl h
    · exact .inr (by first | omega | (simp; omega)))
  have c4 := hfin.1.cell 1 v rfl
  have f4 := hfin.1.frozen 1
  have HF := Lib.hid (And.intro hfin.2.2.1 (HS.out.2.2.trans hfin.2.2.2))
  clear hfin hown' hgrow hat HS
  go_wp2
  (try simp only [Exit.inBlock, Exit.then])
  first | refine bodyPost_ret (results_none rfl _ _ _) rfl ?_ | refine bodyPost_end (results_none rfl _ _ _) rfl ?_
  refine ⟨rfl, ?_⟩
  have := HF.out
  unfold BusN.put
  rw [HY.out, HX.out]
  exact this

end Go.Proofs.Ytckfdbjjjgfbfaa
