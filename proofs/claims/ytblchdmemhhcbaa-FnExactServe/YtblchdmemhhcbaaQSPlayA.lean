/-
  Contracts over the program: its buses (wiredBus, openBus), and what both are to a player.
-/
import Derived.Test.YtblchdmemhhcbaaQSPlayNum
import Derived.Test.YtblchdmemhhcbaaQSBus
import Derived.Test.YtblchdmemhhcbaaQSRamQ
namespace Go.Proofs.Ytblchdmemhhcbaa
set_option linter.unusedVariables false
set_option linter.unusedSimpArgs false
open Go.RowKit

/-- The program's bus at B, all its blocks in F. -/
def WBusAt (w : World) (F : Nat → Prop) (B : Nat) (b : BusN) : Prop :=
  ∃ g cap v, BoxN w B 83 #[.slice (some ⟨g, 0, none⟩) b.mem.length cap, v] ∧ OwnB w 0 (.slice (some ⟨g, 0, none⟩) b.mem.length cap) b.mem ∧ OwnC w 0 v b.log ∧
    F B ∧ F g ∧ g ≠ B ∧ ∀ k, v.ownBlock = some k → F k ∧ k ≠ B ∧ k ≠ g

theorem WBusAt.byte {w : World} {F : Nat → Prop} {B : Nat} {b : BusN} (h : WBusAt w F B b) (a : Nat) : b.get a < 256 := by
  obtain ⟨g, cap, v, _, ho, _⟩ := h
  exact ho.row.2.byte' _

theorem WBusAt.less {w : World} {F G : Nat → Prop} {B : Nat} {b : BusN} (h : WBusAt w F B b) (hs : ∀ i, i < w.heap.size → F i → G i) : WBusAt w G B b := by
  obtain ⟨g, cap, v, hb, ho, hc, fB, fg, hne, fv⟩ := h
  exact ⟨g, cap, v, hb, ho, hc, hs _ hb.lt fB, hs _ ((World.ownsRow.lt ho.2) g rfl).2 fg, hne, fun k ek => ⟨hs _ ((World.ownsRow.lt hc) k ek).2 (fv k ek).1, (fv k ek).2⟩⟩

theorem WBusAt.below {w w' : World} {F : Nat → Prop} {B : Nat} {b : BusN} (h : WBusAt w F B b) (hb : Below w.heap.size w w') : WBusAt w' F B b := by
  obtain ⟨g, cap, v, hx, ho, hc, rest⟩ := h
  exact ⟨g, cap, v, hx.below hb, ho.below hb, ownC_below hc hb, rest⟩

/-- A cycle put behind the others: where the box and the rows lie then. -/
theorem wbus_step {w w0 w4 : World} {F : Nat → Prop} {B g cap : Nat} {v v' : Value} {M : List Nat} {L : List CycN} {c : CycN}
    (hb : BoxN w B 83 #[.slice (some ⟨g, 0, none⟩) M.length cap, v]) (ho : OwnB w 0 (.slice (some ⟨g, 0, none⟩) M.length cap) M) (hc : OwnC w 0 v L)
    (fB : F B) (fg : F g) (hne : g ≠ B) (fv : ∀ k, v.ownBlock = some k → F k ∧ k ≠ B ∧ k ≠ g) (hF : ∀ i, w.heap.size ≤ i → F i)
    (h0 : Below w.heap.size w w0) (hgrow : w0.grownBy w4 v.ownBlock) (hown : w4.ownsRow 0 70 3 v' (L.length + 1) (L.flatMap cycCells ++ cycCells c)) (hnew : ∀ k, v'.ownBlock = some k → v.ownBlock = some k ∨ w0.heap.size ≤ k) :
    BoxN w4 B 83 #[.slice (some ⟨g, 0, none⟩) M.length cap, v] ∧ OwnB w4 0 (.slice (some ⟨g, 0, none⟩) M.length cap) M ∧ WBusAt (w4.setCell ⟨B, 1, none⟩ v') F B ⟨M, L ++ [c]⟩ ∧ Turn F w (w4.setCell ⟨B, 1, none⟩ v') := by
  have hgl := ((World.ownsRow.lt ho.2) g rfl).2
  have b4 : BoxN w4 B 83 #[.slice (some ⟨g, 0, none⟩) M.length cap, v] := by
    have hbl := (hb.below h0).lt
    exact (hgrow.block B hbl (fun e => (fv B e.symm).2.1 rfl)).trans (hb.below h0)
  have o4 : OwnB w4 0 (.slice (some ⟨g, 0, none⟩) M.length cap) M := by
    refine ⟨ho.1, World.ownsRow.kept (ho.below h0).2 hgrow ?_⟩
    exact .inr (fun e => (fv g e.symm).2.2 rfl)
  have n4 : ∀ k, v'.ownBlock = some k → F k ∧ k ≠ B ∧ k ≠ g := fun k ek => by
    rcases hnew k ek with h | h
    · exact fv k h
    · have h1 := hb.lt
      have h2 := h0.size
      exact ⟨hF k (by omega), by omega, by omega⟩
  have t4 : Turn F w w4 := (Turn.of_below h0).trans (Turn.of_grown hgrow (fun k ek => (fv k ek).1))
  refine ⟨b4, o4, ⟨g, cap, v', ?_, ?_, ?_, fB, fg, hne, n4⟩, t4.trans (Turn.set _ _ _ _ fB)⟩
  · exact b4.set 1 v'
  · exact ownB_ne o4 (grownBy_set1 w4 B 1 v') (fun k ek => by simp [Value.ownBlock] at ek; omega)
  · have e : (L ++ [c]).flatMap cycCells = L.flatMap cycCells ++ cycCells c := by simp
    unfold OwnC
    rw [e, show (L ++ [c]).length = L.length + 1 by simp]
    refine World.ownsRow.kept hown (grownBy_set1 w4 B 1 v') ?_
    cases hv : v'.ownBlock with
    | none => exact .inl rfl
    | some k => exact .inr (by simpa using (n4 k hv).2.1)

theorem WBusAt.alloc {w : World} {F : Nat → Prop} {B : Nat} {b : BusN} (h : WBusAt w F B b) (o : Obj) : WBusAt (w.alloc o) F B b := h.below ((Below.refl _ _).alloc (Nat.le_refl _) _)

theorem WBusAt.set {W : World} {F : Nat → Prop} {B : Nat} {b : BusN} (h : WBusAt W F B b) {n k : Nat} (v : Value) (hn : ¬ F n) : WBusAt (W.setCell ⟨n, k, none⟩ v) F B b := by
  obtain ⟨g, cap, u, hb, ho, hc, fB, fg, hne, fv⟩ := h
  have hg := grownBy_set1 W n k v
  refine ⟨g, cap, u, ?_, ownB_ne ho hg (fun j ej => ?_), World.ownsRow.kept hc hg ?_, fB, fg, hne, fv⟩
  · exact (hg.block B hb.lt (fun e => hn (by simp only [Option.some.injEq] at e; rw [← e]; exact fB))).trans hb
  · simp only [Value.ownBlock, Option.some.injEq] at ej
    intro e
    exact hn (by rw [← e, ← ej]; exact fg)
  · cases hv : u.ownBlock with
    | none => exact .inl rfl
    | some j => exact .inr (by
        intro e
        simp only [Option.some.injEq] at e
        exact hn (by rw [← e]; exact (fv j hv).1))

theorem get_peekB {b : BusN} {a : Nat} (h : ramN b.mem.length = true) (ha : a < 65536) : peekL b.mem a = b.get a := by
  unfold BusN.get BusN.spot peekL
  rw [if_pos h, Nat.mod_eq_of_lt ha]

set_option maxRecDepth 100000 in
theorem wrd_any (F : Nat → Prop) (B : Nat) (b : BusN) (a : Nat) (ha : a < 65536) (hf : b.fit 100) (w : World) (hF : ∀ i, w.heap.size ≤ i → F i) (h : WBusAt w F B b) :
    Calls Try.prog 92 #[.pointer (some ⟨B, 0, none⟩), .int .u16 a] w fun e w' => e = .returned (.int .u8 (b.get a)) ∧ WBusAt w' F B (b.rd a) ∧ Turn F w w' := by
  obtain ⟨i0, hi, hz0, hz1, hz2⟩ := info_parts infoCyc
  have h' := h
  obtain ⟨g, cap, v, hb, ho, hc, fB, fg, hne, fv⟩ := h
  obtain ⟨d, hd⟩ : ∃ d, b.get a = d := ⟨_, rfl⟩
  have hdb : d < 256 := by rw [← hd]; exact h'.byte _
  have c0 : w.cell? ⟨B, 0, none⟩ = some (.slice (some ⟨g, 0, none⟩) b.mem.length cap) := hb.cell 0 _ rfl
  have HD := Lib.hid hd
  have e0 := (get_peekB hf.1 ha).trans hd
  rw [hd]
  clear hd h'
  go_enter Try.func92, Try.ntmps92
  go_wp2_with fail
  refine (implPeek_any _ cap a b.mem ha _ ho.row.2).mono ?_
  rintro e w1 ⟨rfl, d1⟩
  rw [e0]
  have hb1 := hb.below d1
  have ho1 := ho.below d1
  have hc1 := ownC_below hc d1
  have c1 : w1.cell? ⟨B, 1, none⟩ = some v := hb1.cell 1 _ rfl
  have f1 := hb1.frozen 1
  have hB1 := hb1.lt
  have D1 := Lib.hid d1
  clear c0 d1 hb ho hc e0
  go_wp2_with (at_builtin; refine wpList_append_lies _ rfl _ _ 35 rfl 0 70 i0 (.agg #[.int .u16 0, .int .u8 0, .bool false]) 3 4 Try.underlying35 hi hz0 hz1 hz2 rfl (by decide) _ _ _ rfl (World.ownsRow.alloc hc1 _) ⟨w1.heap.size, 0, none⟩ 1 1 (cycCells ⟨a, d, false⟩) rfl rfl ?c2 ?c6 (by decide) ?c3 ?c4 ?c5 _ rfl ?_)
  case c2 =>
    intro j u hj
    exact cell_three_new w1 _ _ _ 70 j u hj
  case c6 => intro u hu; simp [cycCells] at hu; rcases hu with rfl | rfl | rfl <;> rfl
  case c3 => unfold maxLen; have := hf.2; omega
  case c4 => have := hf.2; omega
  case c5 => exact Nat.zero_le _
  intro g' cap' w4 hown' hgrow hat _
  have hfin := wbus_step (w := w1) (c := ⟨a, d, false⟩) hb1 ho1 hc1 fB fg hne fv (fun i hi => hF i (Nat.le_trans D1.out.size hi)) ((Below.refl _ _).alloc (Nat.le_refl _) _) hgrow hown' (fun k ek => by
    simp only [Value.ownBlock, Option.some.injEq] at ek; subst ek
    rcases hat with h | h
    · exact .inl h
    · exact .inr (by first | omega | (simp; omega)))
  have c4 := hfin.1.cell 1 v rfl
  have f4 := hfin.1.frozen 1
  have HF := Lib.hid (And.intro hfin.2.2.1 ((Turn.of_below D1.out).trans hfin.2.2.2))
  clear hfin hown' hgrow hat c1 f1
  go_wp2
  go_ret
  refine ⟨rfl, ?_⟩
  have := HF.out
  unfold BusN.rd
  rw [HD.out, Nat.mod_eq_of_lt ha]
  exact this

set_option maxRecDepth 100000 in
theorem wwr_any (F : Nat → Prop) (B : Nat) (b : BusN) (a d : Nat) (ha : a < 65536) (hdb : d < 256) (hf : b.fit 100) (w : World) (hF : ∀ i, w.heap.size ≤ i → F i) (h : WBusAt w F B b) :
    Calls Try.prog 93 #[.pointer (some ⟨B, 0, none⟩), .int .u16 a, .int .u8 d] w fun e w' => e = .returned (.tuple #[]) ∧ WBusAt w' F B (b.put a d) ∧ Turn F w w' := by
  obtain ⟨i0, hi, hz0, hz1, hz2⟩ := info_parts infoCyc
  obtain ⟨g, cap, v, hb, ho, hc, fB, fg, hne, fv⟩ := h
  have hgl := ((World.ownsRow.lt ho.2) g rfl).2
  have c0 : w.cell? ⟨B, 0, none⟩ = some (.slice (some ⟨g, 0, none⟩) b.mem.length cap) := hb.cell 0 _ rfl
  have al : Below w.heap.size w (w.alloc (.cells #[.int .u8 (d : Int)] 5)) := (Below.refl _ _).alloc (Nat.le_refl _) _
  have hrow : RowB (w.alloc (.cells #[.int .u8 (d : Int)] 5)) (some ⟨w.heap.size, 0, none⟩) [d] := (ownNew w [d] (by simp) (fun i hi => by have h0 : i = 0 := by { simpa using hi }; rw [h0]; exact hdb)).row.2
  have hput := fun x => put_any g b.mem.length cap 0 a b.mem (some ⟨w.heap.size, 0, none⟩) x [d] (w.alloc (.cells #[.int .u8 (d : Int)] 5)) ha hf.1 rfl (ho.below al) hrow (fun _ y ey => by simp only [Option.some.injEq] at ey; subst ey; show w.heap.size ≠ g; omega) (by simp)
  have hlen : ([d] : List Nat).length = 1 := rfl
  rw [hlen] at hput
  have efill : fillAt b.mem.length a [d] 0 b.mem = b.mem.set (b.spot a) d := rfl
  rw [efill] at hput
  go_enter Try.func93, Try.ntmps93
  go_wp2_with fail
  refine (hput 1 (by omega)).mono ?_
  rintro e w1 ⟨rfl, o1, g1⟩
  have hlen2 : (b.mem.set (b.spot a) d).length = b.mem.length := List.length_set
  have hb1 : BoxN w1 B 83 #[.slice (some ⟨g, 0, none⟩) b.mem.length cap, v] := (g1.block B (hb.below al).lt (by simp; omega)).trans (hb.below al)
  have hc1 : OwnC w1 0 v b.log := by
    refine World.ownsRow.kept (ownC_below hc al) g1 ?_
    cases hv : v.ownBlock with
    | none => exact .inl rfl
    | some k => exact .inr (by simpa using (fv k hv).2.2)
  have t1 : Turn F w w1 := (Turn.of_below al).trans (Turn.of_grown g1 (fun k ek => by simp only [Option.some.injEq] at ek; subst ek; exact fg))
  have c1 : w1.cell? ⟨B, 1, none⟩ = some v := hb1.cell 1 _ rfl
  have f1 := hb1.frozen 1
  have hB1 := hb1.lt
  have T1 := Lib.hid t1
  clear c0 t1 g1 hb ho hc hput al hrow efill
  go_wp2_with (at_builtin; refine wpList_append_lies _ rfl _ _ 35 rfl 0 70 i0 (.agg #[.int .u16 0, .int .u8 0, .bool false]) 3 4 Try.underlying35 hi hz0 hz1 hz2 rfl (by decide) _ _ _ rfl (World.ownsRow.alloc hc1 _) ⟨w1.heap.size, 0, none⟩ 1 1 (cycCells ⟨a, d, true⟩) rfl rfl ?c2 ?c6 (by decide) ?c3 ?c4 ?c5 _ rfl ?_)
  case c2 =>
    intro j u hj
    exact cell_three_new w1 _ _ _ 70 j u hj
  case c6 => intro u hu; simp [cycCells] at hu; rcases hu with rfl | rfl | rfl <;> rfl
  case c3 => unfold maxLen; have := hf.2; omega
  case c4 => have := hf.2; omega
  case c5 => exact Nat.zero_le _
  intro g' cap' w4 hown' hgrow hat _
  have hfin := wbus_step (w := w1) (c := ⟨a, d, true⟩) (M := b.mem.set (b.spot a) d) (by rw [hlen2]; exact hb1) (by rw [hlen2]; exact o1) hc1 fB fg hne fv (fun i hi => hF i (Nat.le_trans T1.out.size hi)) ((Below.refl _ _).alloc (Nat.le_refl _) _) hgrow hown' (fun k ek => by
    simp only [Value.ownBlock, Option.some.injEq] at ek; subst ek
    rcases hat with h | h
    · exact .inl h
    · exact .inr (by first | omega | (simp; omega)))
  have c4 := hfin.1.cell 1 v rfl
  have f4 := hfin.1.frozen 1
  have HF := Lib.hid (And.intro hfin.2.2.1 (T1.out.trans hfin.2.2.2))
  clear hfin hown' hgrow hat c1 f1
  go_wp2
  (try simp only [Exit.inBlock, Exit.then])
  first | refine bodyPost_ret (results_none rfl _ _ _) rfl ?_ | refine bodyPost_end (results_none rfl _ _ _) rfl ?_
  refine ⟨rfl, ?_⟩
  have := HF.out
  unfold BusN.put
  rw [Nat.mod_eq_of_lt ha]
  exact this

theorem ord_any (a : Nat) (w : World) :
    Calls Try.prog 90 #[.agg #[], .int .u16 a] w fun e w' => e = .returned (.int .u8 0) ∧ Below w.heap.size w w' := by
  go_enter Try.func90, Try.ntmps90
  go_wp2
  go_ret
  exact ⟨rfl, (Below.refl _ _).alloc (Nat.le_refl _) _⟩

theorem owr_any (a d : Nat) (w : World) :
    Calls Try.prog 91 #[.agg #[], .int .u16 a, .int .u8 d] w fun e w' => e = .returned (.tuple #[]) ∧ Below w.heap.size w w' := by
  go_enter Try.func91, Try.ntmps91
  go_wp2
  (try simp only [Exit.inBlock, Exit.then])
  first | refine bodyPost_ret (results_none rfl _ _ _) rfl ?_ | refine bodyPost_end (results_none rfl _ _ _) rfl ?_
  exact ⟨rfl, (Below.refl _ _).alloc (Nat.le_refl _) _⟩

/-- What a player's bus is: wired to a memory at B, or to none. -/
abbrev busV : Option Nat → Value
  | some B => .iface 80 (.pointer (some ⟨B, 0, none⟩))
  | none => .iface 79 (.agg #[])

abbrev busR : Option Nat → Value
  | some B => .pointer (some ⟨B, 0, none⟩)
  | none => .agg #[]

abbrev readK : Option Nat → Nat
  | some _ => 92
  | none => 90

abbrev writeK : Option Nat → Nat
  | some _ => 93
  | none => 91

/-- The bus, wired or not; where it isn't, its memory has no bytes. -/
def BusO (w : World) (F : Nat → Prop) : Option Nat → BusN → Prop
  | some B, b => WBusAt w F B b ∧ ramN b.mem.length = true
  | none, b => b.mem = []

theorem BusO.byte {w : World} {F : Nat → Prop} {o : Option Nat} {b : BusN} (h : BusO w F o b) (a : Nat) : b.get a < 256 := by
  rcases o with _ | B
  · have h : b.mem = [] := h
    unfold BusN.get
    rw [h]
    simp
  · exact h.1.byte a

theorem BusO.below {w w' : World} {F : Nat → Prop} {o : Option Nat} {b : BusN} (h : BusO w F o b) (hb : Below w.heap.size w w') : BusO w' F o b := by
  rcases o with _ | B
  · exact h
  · exact ⟨h.1.below hb, h.2⟩

theorem BusO.set {w : World} {F : Nat → Prop} {o : Option Nat} {b : BusN} (h : BusO w F o b) {n k : Nat} (v : Value) (hn : ¬ F n) : BusO (w.setCell ⟨n, k, none⟩ v) F o b := by
  rcases o with _ | B
  · exact h
  · exact ⟨h.1.set v hn, h.2⟩

theorem bread_any (F : Nat → Prop) (o : Option Nat) (b : BusN) (a : Nat) (ha : a < 65536) (hl : b.log.length ≤ 100) (w : World) (hF : ∀ i, w.heap.size ≤ i → F i) (h : BusO w F o b) :
    Calls Try.prog (readK o) #[busR o, .int .u16 a] w fun e w' => e = .returned (.int .u8 (b.get a)) ∧ BusO w' F o (b.rd a) ∧ Turn F w w' := by
  rcases o with _ | B
  · have h : b.mem = [] := h
    refine (ord_any a w).mono ?_
    rintro e w' ⟨rfl, hb⟩
    refine ⟨?_, h, Turn.of_below hb⟩
    unfold BusN.get
    rw [h]
    rfl
  · refine (wrd_any F B b a ha ⟨h.2, hl⟩ w hF h.1).mono ?_
    rintro e w' ⟨rfl, hb, ht⟩
    exact ⟨rfl, ⟨hb, h.2⟩, ht⟩

theorem bwrite_any (F : Nat → Prop) (o : Option Nat) (b : BusN) (a d : Nat) (ha : a < 65536) (hd : d < 256) (hl : b.log.length ≤ 100) (w : World) (hF : ∀ i, w.heap.size ≤ i → F i) (h : BusO w F o b) :
    Calls Try.prog (writeK o) #[busR o, .int .u16 a, .int .u8 d] w fun e w' => e = .returned (.tuple #[]) ∧ BusO w' F o (b.put a d) ∧ Turn F w w' := by
  rcases o with _ | B
  · have h : b.mem = [] := h
    refine (owr_any a d w).mono ?_
    rintro e w' ⟨rfl, hb⟩
    refine ⟨rfl, ?_, Turn.of_below hb⟩
    show (b.put a d).mem = []
    unfold BusN.put
    simp [h]
  · refine (wwr_any F B b a d ha hd ⟨h.2, hl⟩ w hF h.1).mono ?_
    rintro e w' ⟨rfl, hb, ht⟩
    exact ⟨rfl, ⟨hb, by show ramN (b.put a d).mem.length = true; unfold BusN.put; simp [h.2]⟩, ht⟩

end Go.Proofs.Ytblchdmemhhcbaa
