/-
  Rows that grow at their end, as facts that a walk is handed; whether an interrupt is asked for.
-/
import Derived.Test.YtckfdbjjjgfbfaaUBoxPart
import Derived.Test.YtckfdbjjjgfbfaaURunNum
import Derived.Deep.AppendLies
namespace Go.Proofs.Ytckfdbjjjgfbfaa
set_option linter.unusedVariables false
set_option linter.unusedSimpArgs false
open Go.RowKit

section
variable {P : Program} {ops : Array Oper} {rest : List Oper} {o : Oper} {a : Act} {w w' : World} {Q : Exit → Act → World → Prop} {t : TypeId} {x y : Operand} {p q v : Value}

theorem wpList_append_run (hr : ∀ ty, (Builtin.append_ #[t, t] ty #[p, q]).run P w = .ok v w') (hgd : o.guard = none) (ho : o.op = .call { callee := .builtin .append, args := #[x, y], argTypes := #[t, t] }) (hx : a.eval x = p) (hy : a.eval y = q) (h : wpList P ops Q rest (a.put o.dst v) w') : wpList P ops Q (o :: rest) a w :=
  wpList_plain hgd fun K hK => by
    unfold Oper.wp execOp
    simp only [ho, resolve, invoke, builtin, Sem.run_bind, Sem.run_pure, Result.andThen_ok, List.map_toArray, List.map_cons, List.map_nil, hx, hy, hr]
    exact hK _ _ h

end

/-- A row of a call's own, with a row behind it: where it lies then, and what the world is. -/
theorem seg_append {α : Type} (e : Enc α) (z : α) (hm : 0 < e.m) (ts : TypeId) (zv : Value) (bytes : Nat) (ht : Try.prog.underlying ts = some (.slice e.t)) (hinfo : (Try.prog.info? e.t).map (fun i => (i.zero, i.size, i.bytes)) = some (some zv, e.m, bytes)) (hz : zv.cells.size = e.m)
    {w : World} {lo hi : Nat} {v : Value} {L X : List α} (h : SegG e w lo hi v L) (hhi : hi ≤ w.heap.size) (hlo : lo ≤ w.heap.size) (g o c : Nat) (hX : ∀ j u, (X.flatMap e.cells)[j]? = some u → w.cell? ⟨g, o + j, none⟩ = some u) (hone : ∀ x : α, ∀ u ∈ e.cells x, u.oneCell' = true) (h0 : 0 < X.length) (hsm : (L.length + X.length) * bytes ≤ 140737488355328) (h63 : L.length + X.length ≤ 100000000) :
    ∃ g' cap' w', (∀ ty, (Builtin.append_ #[ts, ts] ty #[v, .slice (some ⟨g, o, none⟩) X.length c]).run Try.prog w = .ok (.slice (some ⟨g', 0, none⟩) (L.length + X.length) cap') w') ∧ SegG e w' g' (g' + 1) (.slice (some ⟨g', 0, none⟩) (L.length + X.length) cap') (L ++ X) ∧ Span lo hi w w' ∧ ((lo ≤ g' ∧ g' < hi) ∨ g' = w.heap.size) ∧ g' < w'.heap.size := by
  obtain ⟨i0, hi0, hz0, hz1, hz2⟩ := info_parts hinfo
  have hnews : ∀ j u, (X.flatMap e.cells)[j]? = some u → w.cell? ((⟨g, o, none⟩ : Addr).add j) = some u := fun j u hu => by rw [Addr.add_mid]; exact hX j u hu
  have hl := flatG_len e X
  have h1 : ∀ u ∈ X.flatMap e.cells, u.oneCell' = true := fun u hu => by
    obtain ⟨x, _, hx⟩ := List.mem_flatMap.1 hu
    exact hone x u hx
  have h63' : L.length + X.length ≤ maxLen := by unfold maxLen; omega
  obtain ⟨g', cap', w', hr, hown, hg, hat, hlt⟩ := run_append_lies (P := Try.prog) w ts 0 lo e.t i0 zv e.m bytes ht hi0 hz0 hz1 hz2 hz hm v L.length (L.flatMap e.cells) h.1 ⟨g, o, none⟩ X.length c (X.flatMap e.cells) hl hnews h1 h0 h63' hsm hlo w.heap.size rfl
  have hr' : ∀ ty, (Builtin.append_ #[ts, ts] ty #[v, .slice (some ⟨g, o, none⟩) X.length c]).run Try.prog w = .ok (.slice (some ⟨g', 0, none⟩) (L.length + X.length) cap') w' := fun ty => by
    obtain ⟨g2, cap2, w2, hr2, hown2, hg2, hat2, hlt2⟩ := run_append_lies (P := Try.prog) w ts ty lo e.t i0 zv e.m bytes ht hi0 hz0 hz1 hz2 hz hm v L.length (L.flatMap e.cells) h.1 ⟨g, o, none⟩ X.length c (X.flatMap e.cells) hl hnews h1 h0 h63' hsm hlo w.heap.size rfl
    have e2 : (Builtin.append_ #[ts, ts] ty #[v, .slice (some ⟨g, o, none⟩) X.length c]).run Try.prog w = (Builtin.append_ #[ts, ts] 0 #[v, .slice (some ⟨g, o, none⟩) X.length c]).run Try.prog w := rfl
    rw [e2, hr]
  have hin : (lo ≤ g' ∧ g' < hi) ∨ g' = w.heap.size := by
    rcases hat with hat | hat
    · exact .inl ⟨((World.ownsRow.lt h.1) g' hat).1, h.2 g' hat⟩
    · exact .inr hat
  refine ⟨g', cap', w', hr', ⟨?_, fun k ek => by simp only [Value.ownBlock, Option.some.injEq] at ek; omega⟩, ?_, hin, hlt⟩
  · refine OwnG.up (w := w') (base := lo) ?_ (fun k ek => by simp only [Value.ownBlock, Option.some.injEq] at ek; omega)
    unfold OwnG
    rw [List.length_append, List.flatMap_append]
    exact hown
  · cases hv : v.ownBlock with
    | none => rw [hv] at hg; exact ⟨hg.os, hg.tape, hg.output, hg.size, fun i hi' _ => hg.block i hi' (by simp)⟩
    | some k =>
      rw [hv] at hg
      have h1 := ((World.ownsRow.lt h.1) k hv).1
      have h2 := h.2 k hv
      exact Span.of_grown hg h1 h2

theorem oneI : ∀ x : Int, ∀ u ∈ encI.cells x, u.oneCell' = true := fun x u hu => by simp [encI] at hu; subst hu; rfl

theorem oneCyc : ∀ x : CycN, ∀ u ∈ encCyc.cells x, u.oneCell' = true := fun x u hu => by
  simp [encCyc, cycCells] at hu
  rcases hu with rfl | rfl | rfl <;> rfl

theorem oneCpu : ∀ x : CpuN, ∀ u ∈ encCpu.cells x, u.oneCell' = true := fun x u hu => by
  simp [encCpu, cpuList] at hu
  rcases hu with rfl | rfl | rfl | rfl | rfl | rfl | rfl | rfl | rfl | rfl | rfl <;> rfl

theorem infoIntA : (Try.prog.info? 3).map (fun i => (i.zero, i.size, i.bytes)) = some (some (.int .i64 0), 1, 8) := by kernel_rfl

theorem infoCpuA : (Try.prog.info? 28).map (fun i => (i.zero, i.size, i.bytes)) = some (some (.agg (cpuCells cpu0)), 11, 12) := by kernel_rfl

/-- One start more. -/
theorem starts_append {w : World} {lo hi : Nat} {v : Value} {L : List Int} (h : SegG encI w lo hi v L) (hhi : hi ≤ w.heap.size) (hlo : lo ≤ w.heap.size) (x : Int) (g : Nat) (hg : BoxN w g 3 #[.int .i64 x]) (hsm : L.length ≤ 1000000) (c : Nat) :
    ∃ g' cap' w', (∀ ty, (Builtin.append_ #[32, 32] ty #[v, .slice (some ⟨g, 0, none⟩) 1 c]).run Try.prog w = .ok (.slice (some ⟨g', 0, none⟩) (L.length + 1) cap') w') ∧ SegG encI w' g' (g' + 1) (.slice (some ⟨g', 0, none⟩) (L.length + 1) cap') (L ++ [x]) ∧ Span lo hi w w' ∧ ((lo ≤ g' ∧ g' < hi) ∨ g' = w.heap.size) ∧ g' < w'.heap.size :=
  seg_append encI 0 (by decide) 32 (.int .i64 0) 8 Try.underlying32 infoIntA rfl h hhi hlo g 0 c (X := [x]) (fun j u hu => by
    rw [Nat.zero_add]
    exact hg.cell j u (by simpa [encI] using hu)) oneI (by simp) (by simp; omega) (by simp; omega)

/-- One processor more. -/
theorem cpus_append {w : World} {lo hi : Nat} {v : Value} {L : List CpuN} (h : SegG encCpu w lo hi v L) (hhi : hi ≤ w.heap.size) (hlo : lo ≤ w.heap.size) (x : CpuN) (g : Nat) (hg : BoxN w g 28 (cpuCells x)) (hsm : L.length ≤ 1000000) (c : Nat) :
    ∃ g' cap' w', (∀ ty, (Builtin.append_ #[33, 33] ty #[v, .slice (some ⟨g, 0, none⟩) 1 c]).run Try.prog w = .ok (.slice (some ⟨g', 0, none⟩) (L.length + 1) cap') w') ∧ SegG encCpu w' g' (g' + 1) (.slice (some ⟨g', 0, none⟩) (L.length + 1) cap') (L ++ [x]) ∧ Span lo hi w w' ∧ ((lo ≤ g' ∧ g' < hi) ∨ g' = w.heap.size) ∧ g' < w'.heap.size :=
  seg_append encCpu cpu0 (by decide) 33 (.agg (cpuCells cpu0)) 12 Try.underlying33 infoCpuA rfl h hhi hlo g 0 c (X := [x]) (fun j u hu => by
    rw [Nat.zero_add]
    exact hg.cell j u (by simpa [encCpu, cpuList] using hu)) oneCpu (by simp) (by simp; omega) (by simp; omega)

/-- A row of cycles behind the others. -/
theorem trace_append {w : World} {lo hi : Nat} {v : Value} {L X : List CycN} (h : SegC w lo hi v L) (hhi : hi ≤ w.heap.size) (hlo : lo ≤ w.heap.size) {lx hx : Nat} {u : Value} (hX : SegC w lx hx u X) (h0 : 0 < X.length) (hsm : L.length ≤ 1000000) (hsx : X.length ≤ 1000000) :
    ∃ g' cap' w', (∀ ty, (Builtin.append_ #[31, 31] ty #[v, u]).run Try.prog w = .ok (.slice (some ⟨g', 0, none⟩) (L.length + X.length) cap') w') ∧ SegC w' g' (g' + 1) (.slice (some ⟨g', 0, none⟩) (L.length + X.length) cap') (L ++ X) ∧ Span lo hi w w' ∧ ((lo ≤ g' ∧ g' < hi) ∨ g' = w.heap.size) ∧ g' < w'.heap.size := by
  obtain ⟨g, cap, rfl, ho⟩ : ∃ g cap, u = .slice (some ⟨g, 0, none⟩) X.length cap ∧ OwnC w lx u X := by
    have h1 := hX.1
    rcases h1.2 with ⟨_, hn⟩ | ⟨g, cap, cur, hv, _⟩
    · omega
    · exact ⟨g, cap, hv, h1⟩
  have h' : SegG encCyc w lo hi v L := h
  exact seg_append encCyc ⟨0, 0, false⟩ (by decide) 31 (.agg #[.int .u16 0, .int .u8 0, .bool false]) 4 Try.underlying31 infoCyc rfl h' hhi hlo g 0 cap (X := X) (fun j u hu => by
    rw [Nat.zero_add]
    have hj : j < (X.flatMap encCyc.cells).length := (List.getElem?_eq_some_iff.1 hu).1
    rw [flatG_len] at hj
    exact (World.ownsRow.cellAt ho j hj).trans hu) oneCyc h0 (by omega) (by omega)

set_option maxRecDepth 100000 in
theorem specAsked_any (ax : Option Addr) (cap : Nat) (E : List EvN) (k : Nat) (nmi : Bool) (w : World) (hE : E.length ≤ 1048576) (hk : k ≤ 1048576) (hr : RowG encEv w ax E) :
    Calls Try.prog 51 #[.slice ax E.length cap, .int .i64 k, .bool nmi] w fun e w' => e = .returned (.bool (askedN E k nmi)) ∧ Below w.heap.size w w' := by
  obtain ⟨r, hrr⟩ : ∃ r, askedN E k nmi = r := ⟨_, rfl⟩
  rw [hrr]
  have HQ := Lib.hid hrr
  have HR := Lib.hid hr
  clear hrr hr
  go_enter Try.func51, Try.ntmps51
  go_wp2
  go_loop [7] (fun i => ∃ j : Nat, j ≤ E.length ∧ i = .int .i64 j ∧ Hid (∀ n (h : n < E.length), n < j → (E[n].at' == (k : Int) && E[n].nmi == nmi) = false)) (fun i => E.length - (intOf i).toNat)
  case atStart => exact ⟨0, Nat.zero_le _, rfl, Lib.hid (fun n _ h => absurd h (Nat.not_lt_zero n))⟩
  case round =>
    obtain ⟨j, hj, rfl, HN⟩ := hrel
    by_cases hp : j < E.length
    · obtain ⟨g, o, rfl, _, p0, p1⟩ := rowEvent_at HR.out j hp
      have ik : (0 : Int) ≤ (j : Int) ∧ (j : Int) < (E.length : Int) := by omega
      cases hb : (E[j].at' == (k : Int) && E[j].nmi == nmi) with
      | true =>
        have hr1 : r = true := by
          rw [← HQ.out]
          unfold askedN
          exact List.any_eq_true.2 ⟨E[j], List.getElem_mem hp, hb⟩
        rw [Bool.and_eq_true] at hb
        obtain ⟨hb1, hb2⟩ := hb
        subst hr1
        obtain ⟨x, hx⟩ : ∃ x, E[j] = x := ⟨_, rfl⟩
        rw [hx] at p0 p1 hb1 hb2
        clear hx HN HQ
        go_wp2
        go_ret
        exact ⟨rfl, Below.refl _ _⟩
      | false =>
        have HN2 : Hid (∀ n (h : n < E.length), n < j + 1 → (E[n].at' == (k : Int) && E[n].nmi == nmi) = false) := Lib.hid (fun n h hn => by
          by_cases e : n = j
          · subst e; exact hb
          · exact HN.out n h (by omega))
        obtain ⟨x, hx⟩ : ∃ x, E[j] = x := ⟨_, rfl⟩
        rw [hx] at p0 p1 hb
        clear hx HN
        cases hb1 : (x.at' == (k : Int)) with
        | false =>
          clear hb
          go_wp2
          go_round
          case rel => exact ⟨j + 1, by omega, by go_num, HN2⟩
          case measure => simp [intOf]; omega
        | true =>
          rw [hb1, Bool.true_and] at hb
          go_wp2
          go_round
          case rel => exact ⟨j + 1, by omega, by go_num, HN2⟩
          case measure => simp [intOf]; omega
    · obtain rfl : j = E.length := by omega
      have hr1 : r = false := by
        rw [← HQ.out]
        unfold askedN
        rw [List.any_eq_false]
        intro x hx
        obtain ⟨n, hn, rfl⟩ := List.getElem_of_mem hx
        have := HN.out n hn hn
        simpa using this
      subst hr1
      clear HN HQ
      go_wp2
      go_ret
      exact ⟨rfl, Below.refl _ _⟩

end Go.Proofs.Ytckfdbjjjgfbfaa
