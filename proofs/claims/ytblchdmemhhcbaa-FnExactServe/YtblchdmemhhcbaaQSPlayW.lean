/-
  Contracts over the program: impl.Serve.
-/
import Derived.Test.YtblchdmemhhcbaaQSPlayU
import Derived.Test.YtblchdmemhhcbaaQSStepK
namespace Go.Proofs.Ytblchdmemhhcbaa
set_option linter.unusedVariables false
set_option linter.unusedSimpArgs false
open Go.RowKit

theorem Stepped.told {w W wT w' : World} {s : St} {e : Ending} (h : Told W s (w.heap.size + 4) e wT) (hb : Below w.heap.size w W) (hs : Span w.heap.size (w.heap.size + 4) wT w') (hz : w.heap.size + 4 ≤ W.heap.size) : Stepped w (s.c, s.b) e w' := by
  obtain ⟨g, cap, v, rfl, ho, hc, hne, hd⟩ := h
  have hw : Below w.heap.size w wT := bstep hb hd
  have hzT := hd.size
  refine ⟨_, _, rfl, ⟨ho.1, rowUp (OwnB.spanned ho hs (fun j ej => ((World.ownsRow.lt ho.2) j ej).1)).2 (fun j ej => ?_)⟩, ?_, fun j ej => ?_, hw.trans (hs.below (Nat.le_refl _) (by omega))⟩
  · have := ((World.ownsRow.lt ho.2) j ej).1
    omega
  · refine rowUp (n := w.heap.size) (base := w.heap.size + 4) ?_ (fun j ej => by have := ((World.ownsRow.lt hc) j ej).1; omega)
    obtain ⟨h1, h2⟩ := hc
    refine ⟨h1, ?_⟩
    rcases h2 with h2 | ⟨g', cap', cur, rfl, hb', hh, rest⟩
    · exact .inl h2
    · exact .inr ⟨g', cap', cur, rfl, hb', (hs.block g' (Array.getElem?_eq_some_iff.1 hh).1 (.inr hb')).trans hh, rest⟩
  · simp only [Value.ownBlock, Option.some.injEq] at ej
    subst ej
    exact fun e => hne _ e rfl

theorem below_step {n : Nat} {V W w : World} (h : Below n V W) (k : Below W.heap.size W w) (hn : n ≤ V.heap.size) : Below n V w := h.trans (k.mono (Nat.le_trans hn h.size))

theorem cells12 {V W : World} {n B C : Nat} {a0 a1 a2 a3 a4 a5 a6 a7 a8 a9 a10 a11 : Value} (hb : Below n V W) (hB : B < n) (hC : C < n)
    (h : V.cell? ⟨B, 0, none⟩ = some a0 ∧ V.cell? ⟨B, 1, none⟩ = some a1 ∧ V.cell? ⟨B, 2, none⟩ = some a2 ∧ V.cell? ⟨B, 3, none⟩ = some a3 ∧ V.cell? ⟨B, 4, none⟩ = some a4 ∧ V.cell? ⟨B, 5, none⟩ = some a5 ∧ V.cell? ⟨B, 6, none⟩ = some a6 ∧ V.cell? ⟨B, 7, none⟩ = some a7 ∧ V.cell? ⟨B, 8, none⟩ = some a8 ∧ V.cell? ⟨B, 9, none⟩ = some a9 ∧ V.cell? ⟨B, 10, none⟩ = some a10 ∧ V.cell? ⟨C, 0, none⟩ = some a11) :
    W.cell? ⟨B, 0, none⟩ = some a0 ∧ W.cell? ⟨B, 1, none⟩ = some a1 ∧ W.cell? ⟨B, 2, none⟩ = some a2 ∧ W.cell? ⟨B, 3, none⟩ = some a3 ∧ W.cell? ⟨B, 4, none⟩ = some a4 ∧ W.cell? ⟨B, 5, none⟩ = some a5 ∧ W.cell? ⟨B, 6, none⟩ = some a6 ∧ W.cell? ⟨B, 7, none⟩ = some a7 ∧ W.cell? ⟨B, 8, none⟩ = some a8 ∧ W.cell? ⟨B, 9, none⟩ = some a9 ∧ W.cell? ⟨B, 10, none⟩ = some a10 ∧ W.cell? ⟨C, 0, none⟩ = some a11 := by
  obtain ⟨h0, h1, h2, h3, h4, h5, h6, h7, h8, h9, h10, h11⟩ := h
  have e : ∀ (b o : Nat) (v : Value), b < n → V.cell? ⟨b, o, none⟩ = some v → W.cell? ⟨b, o, none⟩ = some v := fun b o v hl hv => (hb.cell (p := ⟨b, o, none⟩) hl).trans hv
  exact ⟨e _ _ _ hB h0, e _ _ _ hB h1, e _ _ _ hB h2, e _ _ _ hB h3, e _ _ _ hB h4, e _ _ _ hB h5, e _ _ _ hB h6, e _ _ _ hB h7, e _ _ _ hB h8, e _ _ _ hB h9, e _ _ _ hB h10, e _ _ _ hC h11⟩

set_option maxRecDepth 100000 in
set_option maxHeartbeats 4000000 in
theorem implServe_yes_true (c : CpuN) (hc : c.ok) (a : Option Addr) (cap : Nat) (L : List Nat) (h : ramN L.length = true) (w : World) (hr : RowB w a L) (hcap : L.length ≤ cap) {t : St} (ht : (⟨c, ⟨L, []⟩⟩ : St).idle.idle.inter 65530 false = t) :
    Calls Try.prog 9 #[cpuV c, ramV (.slice a L.length cap), .bool true] w (Stepped w (t.c, t.b)) := by
  have HT := Lib.hid ht
  clear ht
  have al : ∀ (W : World) (o : Obj), Below W.heap.size W (W.alloc o) := fun W o => (Below.refl _ _).alloc (Nat.le_refl _) _
  have hb4 : Below w.heap.size w ((((w.alloc (.cells (cpuCells c) 33)).alloc (.cells #[.slice a L.length cap] 34)).alloc (.cells zeroCpu 33)).alloc (.cells #[.slice none 0 0] 34)) := ((((Below.refl _ _).alloc (Nat.le_refl _) _).alloc (by simp) _).alloc (by simp; omega) _).alloc (by simp; omega) _
  obtain ⟨qB, rB, yB, xB, _, _⟩ := four_call (Below.refl _ ((((w.alloc (.cells (cpuCells c) 33)).alloc (.cells #[.slice a L.length cap] 34)).alloc (.cells zeroCpu 33)).alloc (.cells #[.slice none 0 0] 34)))
  have hz4 : ((((w.alloc (.cells (cpuCells c) 33)).alloc (.cells #[.slice a L.length cap] 34)).alloc (.cells zeroCpu 33)).alloc (.cells #[.slice none 0 0] 34)).heap.size = w.heap.size + 4 := by simp
  have HR := Lib.hid (RowB.below hr hb4)
  clear hr al
  go_enter Try.func9, Try.ntmps9
  go_wp2_with fail
  generalize ((((w.alloc (.cells (cpuCells c) 33)).alloc (.cells #[.slice a L.length cap] 34)).alloc (.cells zeroCpu 33)).alloc (.cells #[.slice none 0 0] 34)) = V at *
  have S0 : V.drew.cell? ⟨w.heap.size, 0, none⟩ = some (.int .u8 (c.A : Int)) ∧ V.drew.cell? ⟨w.heap.size, 1, none⟩ = some (.int .u8 (c.X : Int)) ∧ V.drew.cell? ⟨w.heap.size, 2, none⟩ = some (.int .u8 (c.Y : Int)) ∧ V.drew.cell? ⟨w.heap.size, 3, none⟩ = some (.int .u8 (c.S : Int)) ∧ V.drew.cell? ⟨w.heap.size, 4, none⟩ = some (.int .u16 (c.PC : Int)) ∧ V.drew.cell? ⟨w.heap.size, 5, none⟩ = some (.bool c.N) ∧ V.drew.cell? ⟨w.heap.size, 6, none⟩ = some (.bool c.V) ∧ V.drew.cell? ⟨w.heap.size, 7, none⟩ = some (.bool c.D) ∧ V.drew.cell? ⟨w.heap.size, 8, none⟩ = some (.bool c.I) ∧ V.drew.cell? ⟨w.heap.size, 9, none⟩ = some (.bool c.Z) ∧ V.drew.cell? ⟨w.heap.size, 10, none⟩ = some (.bool c.C) ∧ V.drew.cell? ⟨w.heap.size + 1, 0, none⟩ = some (.slice a L.length cap) := ⟨qB.drew.cell 0 _ rfl, qB.drew.cell 1 _ rfl, qB.drew.cell 2 _ rfl, qB.drew.cell 3 _ rfl, qB.drew.cell 4 _ rfl, qB.drew.cell 5 _ rfl, qB.drew.cell 6 _ rfl, qB.drew.cell 7 _ rfl, qB.drew.cell 8 _ rfl, qB.drew.cell 9 _ rfl, qB.drew.cell 10 _ rfl, rB.cell 0 _ rfl⟩
  have HV := Lib.hid hz4
  clear hz4
  have hd : Below V.heap.size V V := Below.refl _ _
  have S1 : V.cell? ⟨w.heap.size, 0, none⟩ = some (.int .u8 (c.A : Int)) ∧ V.cell? ⟨w.heap.size, 1, none⟩ = some (.int .u8 (c.X : Int)) ∧ V.cell? ⟨w.heap.size, 2, none⟩ = some (.int .u8 (c.Y : Int)) ∧ V.cell? ⟨w.heap.size, 3, none⟩ = some (.int .u8 (c.S : Int)) ∧ V.cell? ⟨w.heap.size, 4, none⟩ = some (.int .u16 (c.PC : Int)) ∧ V.cell? ⟨w.heap.size, 5, none⟩ = some (.bool c.N) ∧ V.cell? ⟨w.heap.size, 6, none⟩ = some (.bool c.V) ∧ V.cell? ⟨w.heap.size, 7, none⟩ = some (.bool c.D) ∧ V.cell? ⟨w.heap.size, 8, none⟩ = some (.bool c.I) ∧ V.cell? ⟨w.heap.size, 9, none⟩ = some (.bool c.Z) ∧ V.cell? ⟨w.heap.size, 10, none⟩ = some (.bool c.C) ∧ V.cell? ⟨w.heap.size + 1, 0, none⟩ = some (.slice a L.length cap) := S0
  have hp : True := trivial
  go_region_held3 (fun w' => w'.cell? ⟨w.heap.size, 0, none⟩ = some (.int .u8 (c.A : Int)) ∧ w'.cell? ⟨w.heap.size, 1, none⟩ = some (.int .u8 (c.X : Int)) ∧ w'.cell? ⟨w.heap.size, 2, none⟩ = some (.int .u8 (c.Y : Int)) ∧ w'.cell? ⟨w.heap.size, 3, none⟩ = some (.int .u8 (c.S : Int)) ∧ w'.cell? ⟨w.heap.size, 4, none⟩ = some (.int .u16 (c.PC : Int)) ∧ w'.cell? ⟨w.heap.size, 5, none⟩ = some (.bool c.N) ∧ w'.cell? ⟨w.heap.size, 6, none⟩ = some (.bool c.V) ∧ w'.cell? ⟨w.heap.size, 7, none⟩ = some (.bool c.D) ∧ w'.cell? ⟨w.heap.size, 8, none⟩ = some (.bool c.I) ∧ w'.cell? ⟨w.heap.size, 9, none⟩ = some (.bool c.Z) ∧ w'.cell? ⟨w.heap.size, 10, none⟩ = some (.bool c.C) ∧ w'.cell? ⟨w.heap.size + 1, 0, none⟩ = some (.slice a L.length cap)) (((try dsimp only); (first | (with_reducible exact S0) | (refine cells12 (V := V) (n := V.heap.size) (by (repeat (any_goals (first | (with_reducible exact hd) | (with_reducible exact Below.refl _ _) | (with_reducible refine Below.drew ?_) | (with_reducible refine Below.setCell ?_ ?_ _) | (with_reducible refine Below.alloc ?_ ?_ _)))); all_goals (first | (with_reducible exact Nat.le_refl _) | (simp; done) | (simp; omega) | omega | (have h9 := hd.size; omega) | (have h9 := hd.size; simp; omega) | (trace_state; omega))) (by have := HV.out; omega) (by have := HV.out; omega) S1)))) (first | (go_at_call 25; refine (busTo_yes a cap L h _ (RowB.below HR.out (by (repeat (any_goals (first | (with_reducible exact Below.refl _ _) | (with_reducible refine Below.drew ?_) | (with_reducible refine Below.setCell ?_ ?_ _) | (with_reducible refine Below.alloc ?_ ?_ _)))); all_goals (first | (with_reducible exact Nat.le_refl _) | (simp; done) | (simp; omega) | omega | (have h9 := hd.size; omega) | (have h9 := hd.size; simp; omega) | (trace_state; omega)))) hcap).mono ?_; rintro e w5 ⟨B, rfl, hbus, d5⟩; (have hd : Below V.heap.size V w5 := below_step (by (repeat (any_goals (first | (with_reducible exact hd) | (with_reducible exact Below.refl _ _) | (with_reducible refine Below.drew ?_) | (with_reducible refine Below.setCell ?_ ?_ _) | (with_reducible refine Below.alloc ?_ ?_ _)))); all_goals (first | (with_reducible exact Nat.le_refl _) | (simp; done) | (simp; omega) | omega | (have h9 := hd.size; omega) | (have h9 := hd.size; simp; omega) | (trace_state; omega))) d5 (Nat.le_refl _)); (first | (have hp := (BoxN.new _ 63 #[.int .u8 0, .int .u8 0, .int .u8 0, .int .u8 0, .int .u16 0, .bool false, .bool false, .bool false, .bool false, .bool false, .bool false, .nilIface, .string ⟨#[]⟩, .int .i64 0, .int .i64 0, .int .i64 0]).drew.below d5) | (have hp := (BoxN.new _ 63 #[.int .u8 0, .int .u8 0, .int .u8 0, .int .u8 0, .int .u16 0, .bool false, .bool false, .bool false, .bool false, .bool false, .bool false, .nilIface, .string ⟨#[]⟩, .int .i64 0, .int .i64 0, .int .i64 0]).below d5) | (have hp := hp.below d5) | (have hp := hp.drew.below d5) | skip); (first | ((have h16 := sixteen hp); (obtain ⟨m0, m1, m2, m3, m4, m5, m6, m7, m8, m9, m10, m11, m12, m13, m14, m15, mf⟩ := h16)) | skip)))
  · have pl : PlayAt (w5.alloc (.cells #[.int .u8 (c.A : Int), .int .u8 (c.X : Int), .int .u8 (c.Y : Int), .int .u8 (c.S : Int), .int .u16 (c.PC : Int), .bool c.N, .bool c.V, .bool c.D, .bool c.I, .bool c.Z, .bool c.C, .iface 80 (.pointer (some ⟨B, 0, none⟩)), .string ⟨#[]⟩, .int .i64 0, .int .i64 0, .int .i64 0] 63)) (fun i => w.heap.size + 4 ≤ i) (w5.heap.size) (some B) ⟨⟨#[]⟩, 0, 0, 0⟩ ⟨c, ⟨L, []⟩⟩ := play_newV (o := (some B)) (k := ⟨⟨#[]⟩, 0, 0, 0⟩) rfl rfl rfl rfl rfl (F := fun i => w.heap.size + 4 ≤ i) ⟨hbus.less (fun i _ hf => by have h8 := HV.out; have h9 : V.heap.size ≤ i := hf; show w.heap.size + 4 ≤ i; omega), h⟩ (fun _ _ hf => hf) (by show w.heap.size + 4 ≤ w5.heap.size; have h8 := HV.out; have e5 : V.heap.size ≤ w5.heap.size := Nat.le_trans (by first | exact Nat.le_refl _ | (simp; done) | (simp; omega)) d5.size; omega) hc
    have dW : Below V.heap.size V (w5.alloc (.cells #[.int .u8 (c.A : Int), .int .u8 (c.X : Int), .int .u8 (c.Y : Int), .int .u8 (c.S : Int), .int .u16 (c.PC : Int), .bool c.N, .bool c.V, .bool c.D, .bool c.I, .bool c.Z, .bool c.C, .iface 80 (.pointer (some ⟨B, 0, none⟩)), .string ⟨#[]⟩, .int .i64 0, .int .i64 0, .int .i64 0] 63)) := (by (repeat (any_goals (first | (with_reducible exact hd) | (with_reducible exact Below.refl _ _) | (with_reducible refine Below.drew ?_) | (with_reducible refine Below.setCell ?_ ?_ _) | (with_reducible refine Below.alloc ?_ ?_ _)))); all_goals (first | (with_reducible exact Nat.le_refl _) | (simp; done) | (simp; omega) | omega | (have h9 := hd.size; omega) | (have h9 := hd.size; simp; omega) | (trace_state; omega)))
    generalize (w5.alloc (.cells #[.int .u8 (c.A : Int), .int .u8 (c.X : Int), .int .u8 (c.Y : Int), .int .u8 (c.S : Int), .int .u16 (c.PC : Int), .bool c.N, .bool c.V, .bool c.D, .bool c.I, .bool c.Z, .bool c.C, .iface 80 (.pointer (some ⟨B, 0, none⟩)), .string ⟨#[]⟩, .int .i64 0, .int .i64 0, .int .i64 0] 63)) = W9 at pl dW ⊢
    generalize w5.heap.size = P at pl ⊢
    have p0 := Play.start (N := 0) pl (fun i hi => by have h8 := HV.out; have h9 := dW.size; omega) (Nat.le_refl _)
    clear pl
    have y6 := yB.below dW
    have x6 := xB.below dW
    have hw9 := bstep hb4 dW
    have hz9 := dW.size
    go_wp2_with fail
    refine (p0.serve_true (by omega) HT.out).mono ?_
    rintro e wA ⟨rfl, pA⟩
    have yA := y6.turn pA.turn (by show ¬ (w.heap.size + 4 ≤ w.heap.size + 1 + 1); omega)
    have xA := x6.turn pA.turn (by show ¬ (w.heap.size + 4 ≤ w.heap.size + 1 + 1 + 1); omega)
    have hwA : Below w.heap.size w wA := hw9.trans (pA.turn.below (n := w.heap.size) (fun i hi hf => by have h9 : w.heap.size + 4 ≤ i := hf; omega) hw9.size)
    have hzA := pA.turn.size
    clear y6 x6 p0
    go_wp2_with fail
    refine (told_some pA).mono ?_
    rintro e wZ ⟨g, cap8, v, rfl, ho, hcy, hne, dZ⟩
    have yZ := yA.below dZ
    have xZ := xA.below dZ
    have hT : Told wA t (w.heap.size + 4) (.returned (.tuple #[cpuV t.c, ramV (.slice (some ⟨g, 0, none⟩) t.b.mem.length cap8), v])) wZ := ⟨g, cap8, v, rfl, ho, hcy, hne, dZ⟩
    have HX := Lib.hid (And.intro hT hwA)
    have HZ := Lib.hid (show w.heap.size + 4 ≤ wA.heap.size by have h8 := HV.out; omega)
    obtain ⟨h0, h1, h2, h3, h4, h5, h6, h7, h8, h9, h10, f1⟩ := eleven yZ
    have xc := xZ.cell 0 _ rfl
    have fx := fun k => xZ.frozen k
    clear yZ xZ yA xA pA ho hcy hne dZ hT hwA
    go_wp2
    refine bodyPost_ret (v := .tuple #[cpuV t.c, ramV (.slice (some ⟨g, 0, none⟩) t.b.mem.length cap8), v]) (by simp [results, Try.results9, go_sem, h0, h1, h2, h3, h4, h5, h6, h7, h8, h9, h10, xc]) rfl (Stepped.told HX.out.1 HX.out.2 ?_ HZ.out)
    repeat (any_goals (first | (with_reducible exact Span.refl _ _ _) | (with_reducible refine Span.drew ?_) | (with_reducible refine Span.more ?_ _) | (with_reducible refine Span.inn ?_ _ ?_ ?_)))
    all_goals omega
  · have pl : PlayAt ((((((((((((((((w5.setCell ⟨V.heap.size, 0, none⟩ (.int .u8 (c.A : Int))).setCell ⟨V.heap.size, 1, none⟩ (.int .u8 (c.X : Int))).setCell ⟨V.heap.size, 2, none⟩ (.int .u8 (c.Y : Int))).setCell ⟨V.heap.size, 3, none⟩ (.int .u8 (c.S : Int))).setCell ⟨V.heap.size, 4, none⟩ (.int .u16 (c.PC : Int))).setCell ⟨V.heap.size, 5, none⟩ (.bool c.N)).setCell ⟨V.heap.size, 6, none⟩ (.bool c.V)).setCell ⟨V.heap.size, 7, none⟩ (.bool c.D)).setCell ⟨V.heap.size, 8, none⟩ (.bool c.I)).setCell ⟨V.heap.size, 9, none⟩ (.bool c.Z)).setCell ⟨V.heap.size, 10, none⟩ (.bool c.C)).setCell ⟨V.heap.size, 11, none⟩ (.iface 80 (.pointer (some ⟨B, 0, none⟩)))).setCell ⟨V.heap.size, 12, none⟩ (.string ⟨#[]⟩)).setCell ⟨V.heap.size, 13, none⟩ (.int .i64 0)).setCell ⟨V.heap.size, 14, none⟩ (.int .i64 0)).setCell ⟨V.heap.size, 15, none⟩ (.int .i64 0)) (fun i => w.heap.size + 4 ≤ i) (V.heap.size) (some B) ⟨⟨#[]⟩, 0, 0, 0⟩ ⟨c, ⟨L, []⟩⟩ := play_oldV (o := (some B)) (k := ⟨⟨#[]⟩, 0, 0, 0⟩) rfl rfl rfl rfl rfl (F := fun i => w.heap.size + 4 ≤ i ∧ i ≠ V.heap.size) hp rfl ⟨hbus.less (fun i hi hf => by have h8 := HV.out; have h9 : V.heap.size + 1 ≤ i := (by simpa using hf); exact ⟨(by omega), (by omega)⟩), h⟩ (fun _ _ hf => hf.1) (fun hf => hf.2 rfl) (by show w.heap.size + 4 ≤ V.heap.size; have h8 := HV.out; have e5 : V.heap.size ≤ w5.heap.size := Nat.le_trans (by first | exact Nat.le_refl _ | (simp; done) | (simp; omega)) d5.size; omega) hc
    have dW : Below V.heap.size V ((((((((((((((((w5.setCell ⟨V.heap.size, 0, none⟩ (.int .u8 (c.A : Int))).setCell ⟨V.heap.size, 1, none⟩ (.int .u8 (c.X : Int))).setCell ⟨V.heap.size, 2, none⟩ (.int .u8 (c.Y : Int))).setCell ⟨V.heap.size, 3, none⟩ (.int .u8 (c.S : Int))).setCell ⟨V.heap.size, 4, none⟩ (.int .u16 (c.PC : Int))).setCell ⟨V.heap.size, 5, none⟩ (.bool c.N)).setCell ⟨V.heap.size, 6, none⟩ (.bool c.V)).setCell ⟨V.heap.size, 7, none⟩ (.bool c.D)).setCell ⟨V.heap.size, 8, none⟩ (.bool c.I)).setCell ⟨V.heap.size, 9, none⟩ (.bool c.Z)).setCell ⟨V.heap.size, 10, none⟩ (.bool c.C)).setCell ⟨V.heap.size, 11, none⟩ (.iface 80 (.pointer (some ⟨B, 0, none⟩)))).setCell ⟨V.heap.size, 12, none⟩ (.string ⟨#[]⟩)).setCell ⟨V.heap.size, 13, none⟩ (.int .i64 0)).setCell ⟨V.heap.size, 14, none⟩ (.int .i64 0)).setCell ⟨V.heap.size, 15, none⟩ (.int .i64 0)) := (by (repeat (any_goals (first | (with_reducible exact hd) | (with_reducible exact Below.refl _ _) | (with_reducible refine Below.drew ?_) | (with_reducible refine Below.setCell ?_ ?_ _) | (with_reducible refine Below.alloc ?_ ?_ _)))); all_goals (first | (with_reducible exact Nat.le_refl _) | (simp; done) | (simp; omega) | omega | (have h9 := hd.size; omega) | (have h9 := hd.size; simp; omega) | (trace_state; omega)))
    generalize ((((((((((((((((w5.setCell ⟨V.heap.size, 0, none⟩ (.int .u8 (c.A : Int))).setCell ⟨V.heap.size, 1, none⟩ (.int .u8 (c.X : Int))).setCell ⟨V.heap.size, 2, none⟩ (.int .u8 (c.Y : Int))).setCell ⟨V.heap.size, 3, none⟩ (.int .u8 (c.S : Int))).setCell ⟨V.heap.size, 4, none⟩ (.int .u16 (c.PC : Int))).setCell ⟨V.heap.size, 5, none⟩ (.bool c.N)).setCell ⟨V.heap.size, 6, none⟩ (.bool c.V)).setCell ⟨V.heap.size, 7, none⟩ (.bool c.D)).setCell ⟨V.heap.size, 8, none⟩ (.bool c.I)).setCell ⟨V.heap.size, 9, none⟩ (.bool c.Z)).setCell ⟨V.heap.size, 10, none⟩ (.bool c.C)).setCell ⟨V.heap.size, 11, none⟩ (.iface 80 (.pointer (some ⟨B, 0, none⟩)))).setCell ⟨V.heap.size, 12, none⟩ (.string ⟨#[]⟩)).setCell ⟨V.heap.size, 13, none⟩ (.int .i64 0)).setCell ⟨V.heap.size, 14, none⟩ (.int .i64 0)).setCell ⟨V.heap.size, 15, none⟩ (.int .i64 0)) = W9 at pl dW ⊢
    generalize V.heap.size = P at pl ⊢
    have p0 := Play.start (N := 0) pl (fun i hi => by have h8 := HV.out; have h9 := dW.size; omega) (Nat.le_refl _)
    clear pl
    have y6 := yB.below dW
    have x6 := xB.below dW
    have hw9 := bstep hb4 dW
    have hz9 := dW.size
    go_wp2_with fail
    refine (p0.serve_true (by omega) HT.out).mono ?_
    rintro e wA ⟨rfl, pA⟩
    have yA := y6.turn pA.turn (by show ¬ (w.heap.size + 4 ≤ w.heap.size + 1 + 1); omega)
    have xA := x6.turn pA.turn (by show ¬ (w.heap.size + 4 ≤ w.heap.size + 1 + 1 + 1); omega)
    have hwA : Below w.heap.size w wA := hw9.trans (pA.turn.below (n := w.heap.size) (fun i hi hf => by have h9 : w.heap.size + 4 ≤ i := hf; omega) hw9.size)
    have hzA := pA.turn.size
    clear y6 x6 p0
    go_wp2_with fail
    refine (told_some pA).mono ?_
    rintro e wZ ⟨g, cap8, v, rfl, ho, hcy, hne, dZ⟩
    have yZ := yA.below dZ
    have xZ := xA.below dZ
    have hT : Told wA t (w.heap.size + 4) (.returned (.tuple #[cpuV t.c, ramV (.slice (some ⟨g, 0, none⟩) t.b.mem.length cap8), v])) wZ := ⟨g, cap8, v, rfl, ho, hcy, hne, dZ⟩
    have HX := Lib.hid (And.intro hT hwA)
    have HZ := Lib.hid (show w.heap.size + 4 ≤ wA.heap.size by have h8 := HV.out; omega)
    obtain ⟨h0, h1, h2, h3, h4, h5, h6, h7, h8, h9, h10, f1⟩ := eleven yZ
    have xc := xZ.cell 0 _ rfl
    have fx := fun k => xZ.frozen k
    clear yZ xZ yA xA pA ho hcy hne dZ hT hwA
    go_wp2
    refine bodyPost_ret (v := .tuple #[cpuV t.c, ramV (.slice (some ⟨g, 0, none⟩) t.b.mem.length cap8), v]) (by simp [results, Try.results9, go_sem, h0, h1, h2, h3, h4, h5, h6, h7, h8, h9, h10, xc]) rfl (Stepped.told HX.out.1 HX.out.2 ?_ HZ.out)
    repeat (any_goals (first | (with_reducible exact Span.refl _ _ _) | (with_reducible refine Span.drew ?_) | (with_reducible refine Span.more ?_ _) | (with_reducible refine Span.inn ?_ _ ?_ ?_)))
    all_goals omega

set_option maxRecDepth 100000 in
set_option maxHeartbeats 4000000 in
theorem implServe_yes_false (c : CpuN) (hc : c.ok) (a : Option Addr) (cap : Nat) (L : List Nat) (h : ramN L.length = true) (w : World) (hr : RowB w a L) (hcap : L.length ≤ cap) {t : St} (ht : (⟨c, ⟨L, []⟩⟩ : St).idle.idle.inter 65534 false = t) :
    Calls Try.prog 9 #[cpuV c, ramV (.slice a L.length cap), .bool false] w (Stepped w (t.c, t.b)) := by
  have HT := Lib.hid ht
  clear ht
  have al : ∀ (W : World) (o : Obj), Below W.heap.size W (W.alloc o) := fun W o => (Below.refl _ _).alloc (Nat.le_refl _) _
  have hb4 : Below w.heap.size w ((((w.alloc (.cells (cpuCells c) 33)).alloc (.cells #[.slice a L.length cap] 34)).alloc (.cells zeroCpu 33)).alloc (.cells #[.slice none 0 0] 34)) := ((((Below.refl _ _).alloc (Nat.le_refl _) _).alloc (by simp) _).alloc (by simp; omega) _).alloc (by simp; omega) _
  obtain ⟨qB, rB, yB, xB, _, _⟩ := four_call (Below.refl _ ((((w.alloc (.cells (cpuCells c) 33)).alloc (.cells #[.slice a L.length cap] 34)).alloc (.cells zeroCpu 33)).alloc (.cells #[.slice none 0 0] 34)))
  have hz4 : ((((w.alloc (.cells (cpuCells c) 33)).alloc (.cells #[.slice a L.length cap] 34)).alloc (.cells zeroCpu 33)).alloc (.cells #[.slice none 0 0] 34)).heap.size = w.heap.size + 4 := by simp
  have HR := Lib.hid (RowB.below hr hb4)
  clear hr al
  go_enter Try.func9, Try.ntmps9
  go_wp2_with fail
  generalize ((((w.alloc (.cells (cpuCells c) 33)).alloc (.cells #[.slice a L.length cap] 34)).alloc (.cells zeroCpu 33)).alloc (.cells #[.slice none 0 0] 34)) = V at *
  have S0 : V.drew.cell? ⟨w.heap.size, 0, none⟩ = some (.int .u8 (c.A : Int)) ∧ V.drew.cell? ⟨w.heap.size, 1, none⟩ = some (.int .u8 (c.X : Int)) ∧ V.drew.cell? ⟨w.heap.size, 2, none⟩ = some (.int .u8 (c.Y : Int)) ∧ V.drew.cell? ⟨w.heap.size, 3, none⟩ = some (.int .u8 (c.S : Int)) ∧ V.drew.cell? ⟨w.heap.size, 4, none⟩ = some (.int .u16 (c.PC : Int)) ∧ V.drew.cell? ⟨w.heap.size, 5, none⟩ = some (.bool c.N) ∧ V.drew.cell? ⟨w.heap.size, 6, none⟩ = some (.bool c.V) ∧ V.drew.cell? ⟨w.heap.size, 7, none⟩ = some (.bool c.D) ∧ V.drew.cell? ⟨w.heap.size, 8, none⟩ = some (.bool c.I) ∧ V.drew.cell? ⟨w.heap.size, 9, none⟩ = some (.bool c.Z) ∧ V.drew.cell? ⟨w.heap.size, 10, none⟩ = some (.bool c.C) ∧ V.drew.cell? ⟨w.heap.size + 1, 0, none⟩ = some (.slice a L.length cap) := ⟨qB.drew.cell 0 _ rfl, qB.drew.cell 1 _ rfl, qB.drew.cell 2 _ rfl, qB.drew.cell 3 _ rfl, qB.drew.cell 4 _ rfl, qB.drew.cell 5 _ rfl, qB.drew.cell 6 _ rfl, qB.drew.cell 7 _ rfl, qB.drew.cell 8 _ rfl, qB.drew.cell 9 _ rfl, qB.drew.cell 10 _ rfl, rB.cell 0 _ rfl⟩
  have HV := Lib.hid hz4
  clear hz4
  have hd : Below V.heap.size V V := Below.refl _ _
  have S1 : V.cell? ⟨w.heap.size, 0, none⟩ = some (.int .u8 (c.A : Int)) ∧ V.cell? ⟨w.heap.size, 1, none⟩ = some (.int .u8 (c.X : Int)) ∧ V.cell? ⟨w.heap.size, 2, none⟩ = some (.int .u8 (c.Y : Int)) ∧ V.cell? ⟨w.heap.size, 3, none⟩ = some (.int .u8 (c.S : Int)) ∧ V.cell? ⟨w.heap.size, 4, none⟩ = some (.int .u16 (c.PC : Int)) ∧ V.cell? ⟨w.heap.size, 5, none⟩ = some (.bool c.N) ∧ V.cell? ⟨w.heap.size, 6, none⟩ = some (.bool c.V) ∧ V.cell? ⟨w.heap.size, 7, none⟩ = some (.bool c.D) ∧ V.cell? ⟨w.heap.size, 8, none⟩ = some (.bool c.I) ∧ V.cell? ⟨w.heap.size, 9, none⟩ = some (.bool c.Z) ∧ V.cell? ⟨w.heap.size, 10, none⟩ = some (.bool c.C) ∧ V.cell? ⟨w.heap.size + 1, 0, none⟩ = some (.slice a L.length cap) := S0
  have hp : True := trivial
  go_region_held3 (fun w' => w'.cell? ⟨w.heap.size, 0, none⟩ = some (.int .u8 (c.A : Int)) ∧ w'.cell? ⟨w.heap.size, 1, none⟩ = some (.int .u8 (c.X : Int)) ∧ w'.cell? ⟨w.heap.size, 2, none⟩ = some (.int .u8 (c.Y : Int)) ∧ w'.cell? ⟨w.heap.size, 3, none⟩ = some (.int .u8 (c.S : Int)) ∧ w'.cell? ⟨w.heap.size, 4, none⟩ = some (.int .u16 (c.PC : Int)) ∧ w'.cell? ⟨w.heap.size, 5, none⟩ = some (.bool c.N) ∧ w'.cell? ⟨w.heap.size, 6, none⟩ = some (.bool c.V) ∧ w'.cell? ⟨w.heap.size, 7, none⟩ = some (.bool c.D) ∧ w'.cell? ⟨w.heap.size, 8, none⟩ = some (.bool c.I) ∧ w'.cell? ⟨w.heap.size, 9, none⟩ = some (.bool c.Z) ∧ w'.cell? ⟨w.heap.size, 10, none⟩ = some (.bool c.C) ∧ w'.cell? ⟨w.heap.size + 1, 0, none⟩ = some (.slice a L.length cap)) (((try dsimp only); (first | (with_reducible exact S0) | (refine cells12 (V := V) (n := V.heap.size) (by (repeat (any_goals (first | (with_reducible exact hd) | (with_reducible exact Below.refl _ _) | (with_reducible refine Below.drew ?_) | (with_reducible refine Below.setCell ?_ ?_ _) | (with_reducible refine Below.alloc ?_ ?_ _)))); all_goals (first | (with_reducible exact Nat.le_refl _) | (simp; done) | (simp; omega) | omega | (have h9 := hd.size; omega) | (have h9 := hd.size; simp; omega) | (trace_state; omega))) (by have := HV.out; omega) (by have := HV.out; omega) S1)))) (first | (go_at_call 25; refine (busTo_yes a cap L h _ (RowB.below HR.out (by (repeat (any_goals (first | (with_reducible exact Below.refl _ _) | (with_reducible refine Below.drew ?_) | (with_reducible refine Below.setCell ?_ ?_ _) | (with_reducible refine Below.alloc ?_ ?_ _)))); all_goals (first | (with_reducible exact Nat.le_refl _) | (simp; done) | (simp; omega) | omega | (have h9 := hd.size; omega) | (have h9 := hd.size; simp; omega) | (trace_state; omega)))) hcap).mono ?_; rintro e w5 ⟨B, rfl, hbus, d5⟩; (have hd : Below V.heap.size V w5 := below_step (by (repeat (any_goals (first | (with_reducible exact hd) | (with_reducible exact Below.refl _ _) | (with_reducible refine Below.drew ?_) | (with_reducible refine Below.setCell ?_ ?_ _) | (with_reducible refine Below.alloc ?_ ?_ _)))); all_goals (first | (with_reducible exact Nat.le_refl _) | (simp; done) | (simp; omega) | omega | (have h9 := hd.size; omega) | (have h9 := hd.size; simp; omega) | (trace_state; omega))) d5 (Nat.le_refl _)); (first | (have hp := (BoxN.new _ 63 #[.int .u8 0, .int .u8 0, .int .u8 0, .int .u8 0, .int .u16 0, .bool false, .bool false, .bool false, .bool false, .bool false, .bool false, .nilIface, .string ⟨#[]⟩, .int .i64 0, .int .i64 0, .int .i64 0]).drew.below d5) | (have hp := (BoxN.new _ 63 #[.int .u8 0, .int .u8 0, .int .u8 0, .int .u8 0, .int .u16 0, .bool false, .bool false, .bool false, .bool false, .bool false, .bool false, .nilIface, .string ⟨#[]⟩, .int .i64 0, .int .i64 0, .int .i64 0]).below d5) | (have hp := hp.below d5) | (have hp := hp.drew.below d5) | skip); (first | ((have h16 := sixteen hp); (obtain ⟨m0, m1, m2, m3, m4, m5, m6, m7, m8, m9, m10, m11, m12, m13, m14, m15, mf⟩ := h16)) | skip)))
  · have pl : PlayAt (w5.alloc (.cells #[.int .u8 (c.A : Int), .int .u8 (c.X : Int), .int .u8 (c.Y : Int), .int .u8 (c.S : Int), .int .u16 (c.PC : Int), .bool c.N, .bool c.V, .bool c.D, .bool c.I, .bool c.Z, .bool c.C, .iface 80 (.pointer (some ⟨B, 0, none⟩)), .string ⟨#[]⟩, .int .i64 0, .int .i64 0, .int .i64 0] 63)) (fun i => w.heap.size + 4 ≤ i) (w5.heap.size) (some B) ⟨⟨#[]⟩, 0, 0, 0⟩ ⟨c, ⟨L, []⟩⟩ := play_newV (o := (some B)) (k := ⟨⟨#[]⟩, 0, 0, 0⟩) rfl rfl rfl rfl rfl (F := fun i => w.heap.size + 4 ≤ i) ⟨hbus.less (fun i _ hf => by have h8 := HV.out; have h9 : V.heap.size ≤ i := hf; show w.heap.size + 4 ≤ i; omega), h⟩ (fun _ _ hf => hf) (by show w.heap.size + 4 ≤ w5.heap.size; have h8 := HV.out; have e5 : V.heap.size ≤ w5.heap.size := Nat.le_trans (by first | exact Nat.le_refl _ | (simp; done) | (simp; omega)) d5.size; omega) hc
    have dW : Below V.heap.size V (w5.alloc (.cells #[.int .u8 (c.A : Int), .int .u8 (c.X : Int), .int .u8 (c.Y : Int), .int .u8 (c.S : Int), .int .u16 (c.PC : Int), .bool c.N, .bool c.V, .bool c.D, .bool c.I, .bool c.Z, .bool c.C, .iface 80 (.pointer (some ⟨B, 0, none⟩)), .string ⟨#[]⟩, .int .i64 0, .int .i64 0, .int .i64 0] 63)) := (by (repeat (any_goals (first | (with_reducible exact hd) | (with_reducible exact Below.refl _ _) | (with_reducible refine Below.drew ?_) | (with_reducible refine Below.setCell ?_ ?_ _) | (with_reducible refine Below.alloc ?_ ?_ _)))); all_goals (first | (with_reducible exact Nat.le_refl _) | (simp; done) | (simp; omega) | omega | (have h9 := hd.size; omega) | (have h9 := hd.size; simp; omega) | (trace_state; omega)))
    generalize (w5.alloc (.cells #[.int .u8 (c.A : Int), .int .u8 (c.X : Int), .int .u8 (c.Y : Int), .int .u8 (c.S : Int), .int .u16 (c.PC : Int), .bool c.N, .bool c.V, .bool c.D, .bool c.I, .bool c.Z, .bool c.C, .iface 80 (.pointer (some ⟨B, 0, none⟩)), .string ⟨#[]⟩, .int .i64 0, .int .i64 0, .int .i64 0] 63)) = W9 at pl dW ⊢
    generalize w5.heap.size = P at pl ⊢
    have p0 := Play.start (N := 0) pl (fun i hi => by have h8 := HV.out; have h9 := dW.size; omega) (Nat.le_refl _)
    clear pl
    have y6 := yB.below dW
    have x6 := xB.below dW
    have hw9 := bstep hb4 dW
    have hz9 := dW.size
    go_wp2_with fail
    refine (p0.serve_false (by omega) HT.out).mono ?_
    rintro e wA ⟨rfl, pA⟩
    have yA := y6.turn pA.turn (by show ¬ (w.heap.size + 4 ≤ w.heap.size + 1 + 1); omega)
    have xA := x6.turn pA.turn (by show ¬ (w.heap.size + 4 ≤ w.heap.size + 1 + 1 + 1); omega)
    have hwA : Below w.heap.size w wA := hw9.trans (pA.turn.below (n := w.heap.size) (fun i hi hf => by have h9 : w.heap.size + 4 ≤ i := hf; omega) hw9.size)
    have hzA := pA.turn.size
    clear y6 x6 p0
    go_wp2_with fail
    refine (told_some pA).mono ?_
    rintro e wZ ⟨g, cap8, v, rfl, ho, hcy, hne, dZ⟩
    have yZ := yA.below dZ
    have xZ := xA.below dZ
    have hT : Told wA t (w.heap.size + 4) (.returned (.tuple #[cpuV t.c, ramV (.slice (some ⟨g, 0, none⟩) t.b.mem.length cap8), v])) wZ := ⟨g, cap8, v, rfl, ho, hcy, hne, dZ⟩
    have HX := Lib.hid (And.intro hT hwA)
    have HZ := Lib.hid (show w.heap.size + 4 ≤ wA.heap.size by have h8 := HV.out; omega)
    obtain ⟨h0, h1, h2, h3, h4, h5, h6, h7, h8, h9, h10, f1⟩ := eleven yZ
    have xc := xZ.cell 0 _ rfl
    have fx := fun k => xZ.frozen k
    clear yZ xZ yA xA pA ho hcy hne dZ hT hwA
    go_wp2
    refine bodyPost_ret (v := .tuple #[cpuV t.c, ramV (.slice (some ⟨g, 0, none⟩) t.b.mem.length cap8), v]) (by simp [results, Try.results9, go_sem, h0, h1, h2, h3, h4, h5, h6, h7, h8, h9, h10, xc]) rfl (Stepped.told HX.out.1 HX.out.2 ?_ HZ.out)
    repeat (any_goals (first | (with_reducible exact Span.refl _ _ _) | (with_reducible refine Span.drew ?_) | (with_reducible refine Span.more ?_ _) | (with_reducible refine Span.inn ?_ _ ?_ ?_)))
    all_goals omega
  · have pl : PlayAt ((((((((((((((((w5.setCell ⟨V.heap.size, 0, none⟩ (.int .u8 (c.A : Int))).setCell ⟨V.heap.size, 1, none⟩ (.int .u8 (c.X : Int))).setCell ⟨V.heap.size, 2, none⟩ (.int .u8 (c.Y : Int))).setCell ⟨V.heap.size, 3, none⟩ (.int .u8 (c.S : Int))).setCell ⟨V.heap.size, 4, none⟩ (.int .u16 (c.PC : Int))).setCell ⟨V.heap.size, 5, none⟩ (.bool c.N)).setCell ⟨V.heap.size, 6, none⟩ (.bool c.V)).setCell ⟨V.heap.size, 7, none⟩ (.bool c.D)).setCell ⟨V.heap.size, 8, none⟩ (.bool c.I)).setCell ⟨V.heap.size, 9, none⟩ (.bool c.Z)).setCell ⟨V.heap.size, 10, none⟩ (.bool c.C)).setCell ⟨V.heap.size, 11, none⟩ (.iface 80 (.pointer (some ⟨B, 0, none⟩)))).setCell ⟨V.heap.size, 12, none⟩ (.string ⟨#[]⟩)).setCell ⟨V.heap.size, 13, none⟩ (.int .i64 0)).setCell ⟨V.heap.size, 14, none⟩ (.int .i64 0)).setCell ⟨V.heap.size, 15, none⟩ (.int .i64 0)) (fun i => w.heap.size + 4 ≤ i) (V.heap.size) (some B) ⟨⟨#[]⟩, 0, 0, 0⟩ ⟨c, ⟨L, []⟩⟩ := play_oldV (o := (some B)) (k := ⟨⟨#[]⟩, 0, 0, 0⟩) rfl rfl rfl rfl rfl (F := fun i => w.heap.size + 4 ≤ i ∧ i ≠ V.heap.size) hp rfl ⟨hbus.less (fun i hi hf => by have h8 := HV.out; have h9 : V.heap.size + 1 ≤ i := (by simpa using hf); exact ⟨(by omega), (by omega)⟩), h⟩ (fun _ _ hf => hf.1) (fun hf => hf.2 rfl) (by show w.heap.size + 4 ≤ V.heap.size; have h8 := HV.out; have e5 : V.heap.size ≤ w5.heap.size := Nat.le_trans (by first | exact Nat.le_refl _ | (simp; done) | (simp; omega)) d5.size; omega) hc
    have dW : Below V.heap.size V ((((((((((((((((w5.setCell ⟨V.heap.size, 0, none⟩ (.int .u8 (c.A : Int))).setCell ⟨V.heap.size, 1, none⟩ (.int .u8 (c.X : Int))).setCell ⟨V.heap.size, 2, none⟩ (.int .u8 (c.Y : Int))).setCell ⟨V.heap.size, 3, none⟩ (.int .u8 (c.S : Int))).setCell ⟨V.heap.size, 4, none⟩ (.int .u16 (c.PC : Int))).setCell ⟨V.heap.size, 5, none⟩ (.bool c.N)).setCell ⟨V.heap.size, 6, none⟩ (.bool c.V)).setCell ⟨V.heap.size, 7, none⟩ (.bool c.D)).setCell ⟨V.heap.size, 8, none⟩ (.bool c.I)).setCell ⟨V.heap.size, 9, none⟩ (.bool c.Z)).setCell ⟨V.heap.size, 10, none⟩ (.bool c.C)).setCell ⟨V.heap.size, 11, none⟩ (.iface 80 (.pointer (some ⟨B, 0, none⟩)))).setCell ⟨V.heap.size, 12, none⟩ (.string ⟨#[]⟩)).setCell ⟨V.heap.size, 13, none⟩ (.int .i64 0)).setCell ⟨V.heap.size, 14, none⟩ (.int .i64 0)).setCell ⟨V.heap.size, 15, none⟩ (.int .i64 0)) := (by (repeat (any_goals (first | (with_reducible exact hd) | (with_reducible exact Below.refl _ _) | (with_reducible refine Below.drew ?_) | (with_reducible refine Below.setCell ?_ ?_ _) | (with_reducible refine Below.alloc ?_ ?_ _)))); all_goals (first | (with_reducible exact Nat.le_refl _) | (simp; done) | (simp; omega) | omega | (have h9 := hd.size; omega) | (have h9 := hd.size; simp; omega) | (trace_state; omega)))
    generalize ((((((((((((((((w5.setCell ⟨V.heap.size, 0, none⟩ (.int .u8 (c.A : Int))).setCell ⟨V.heap.size, 1, none⟩ (.int .u8 (c.X : Int))).setCell ⟨V.heap.size, 2, none⟩ (.int .u8 (c.Y : Int))).setCell ⟨V.heap.size, 3, none⟩ (.int .u8 (c.S : Int))).setCell ⟨V.heap.size, 4, none⟩ (.int .u16 (c.PC : Int))).setCell ⟨V.heap.size, 5, none⟩ (.bool c.N)).setCell ⟨V.heap.size, 6, none⟩ (.bool c.V)).setCell ⟨V.heap.size, 7, none⟩ (.bool c.D)).setCell ⟨V.heap.size, 8, none⟩ (.bool c.I)).setCell ⟨V.heap.size, 9, none⟩ (.bool c.Z)).setCell ⟨V.heap.size, 10, none⟩ (.bool c.C)).setCell ⟨V.heap.size, 11, none⟩ (.iface 80 (.pointer (some ⟨B, 0, none⟩)))).setCell ⟨V.heap.size, 12, none⟩ (.string ⟨#[]⟩)).setCell ⟨V.heap.size, 13, none⟩ (.int .i64 0)).setCell ⟨V.heap.size, 14, none⟩ (.int .i64 0)).setCell ⟨V.heap.size, 15, none⟩ (.int .i64 0)) = W9 at pl dW ⊢
    generalize V.heap.size = P at pl ⊢
    have p0 := Play.start (N := 0) pl (fun i hi => by have h8 := HV.out; have h9 := dW.size; omega) (Nat.le_refl _)
    clear pl
    have y6 := yB.below dW
    have x6 := xB.below dW
    have hw9 := bstep hb4 dW
    have hz9 := dW.size
    go_wp2_with fail
    refine (p0.serve_false (by omega) HT.out).mono ?_
    rintro e wA ⟨rfl, pA⟩
    have yA := y6.turn pA.turn (by show ¬ (w.heap.size + 4 ≤ w.heap.size + 1 + 1); omega)
    have xA := x6.turn pA.turn (by show ¬ (w.heap.size + 4 ≤ w.heap.size + 1 + 1 + 1); omega)
    have hwA : Below w.heap.size w wA := hw9.trans (pA.turn.below (n := w.heap.size) (fun i hi hf => by have h9 : w.heap.size + 4 ≤ i := hf; omega) hw9.size)
    have hzA := pA.turn.size
    clear y6 x6 p0
    go_wp2_with fail
    refine (told_some pA).mono ?_
    rintro e wZ ⟨g, cap8, v, rfl, ho, hcy, hne, dZ⟩
    have yZ := yA.below dZ
    have xZ := xA.below dZ
    have hT : Told wA t (w.heap.size + 4) (.returned (.tuple #[cpuV t.c, ramV (.slice (some ⟨g, 0, none⟩) t.b.mem.length cap8), v])) wZ := ⟨g, cap8, v, rfl, ho, hcy, hne, dZ⟩
    have HX := Lib.hid (And.intro hT hwA)
    have HZ := Lib.hid (show w.heap.size + 4 ≤ wA.heap.size by have h8 := HV.out; omega)
    obtain ⟨h0, h1, h2, h3, h4, h5, h6, h7, h8, h9, h10, f1⟩ := eleven yZ
    have xc := xZ.cell 0 _ rfl
    have fx := fun k => xZ.frozen k
    clear yZ xZ yA xA pA ho hcy hne dZ hT hwA
    go_wp2
    refine bodyPost_ret (v := .tuple #[cpuV t.c, ramV (.slice (some ⟨g, 0, none⟩) t.b.mem.length cap8), v]) (by simp [results, Try.results9, go_sem, h0, h1, h2, h3, h4, h5, h6, h7, h8, h9, h10, xc]) rfl (Stepped.told HX.out.1 HX.out.2 ?_ HZ.out)
    repeat (any_goals (first | (with_reducible exact Span.refl _ _ _) | (with_reducible refine Span.drew ?_) | (with_reducible refine Span.more ?_ _) | (with_reducible refine Span.inn ?_ _ ?_ ?_)))
    all_goals omega

set_option maxRecDepth 100000 in
set_option maxHeartbeats 4000000 in
theorem implServe_no_true (c : CpuN) (hc : c.ok) (a : Option Addr) (cap : Nat) (L : List Nat) (h : ramN L.length = false) (w : World) (hr : RowB w a L) (hcap : L.length ≤ cap) :
    Calls Try.prog 9 #[cpuV c, ramV (.slice a L.length cap), .bool true] w (Stepped w (cpu0, ⟨[], []⟩)) := by
  have al : ∀ (W : World) (o : Obj), Below W.heap.size W (W.alloc o) := fun W o => (Below.refl _ _).alloc (Nat.le_refl _) _
  have hb4 : Below w.heap.size w ((((w.alloc (.cells (cpuCells c) 33)).alloc (.cells #[.slice a L.length cap] 34)).alloc (.cells zeroCpu 33)).alloc (.cells #[.slice none 0 0] 34)) := ((((Below.refl _ _).alloc (Nat.le_refl _) _).alloc (by simp) _).alloc (by simp; omega) _).alloc (by simp; omega) _
  obtain ⟨qB, rB, yB, xB, _, _⟩ := four_call (Below.refl _ ((((w.alloc (.cells (cpuCells c) 33)).alloc (.cells #[.slice a L.length cap] 34)).alloc (.cells zeroCpu 33)).alloc (.cells #[.slice none 0 0] 34)))
  have hz4 : ((((w.alloc (.cells (cpuCells c) 33)).alloc (.cells #[.slice a L.length cap] 34)).alloc (.cells zeroCpu 33)).alloc (.cells #[.slice none 0 0] 34)).heap.size = w.heap.size + 4 := by simp
  have HR := Lib.hid (RowB.below hr hb4)
  clear hr al
  go_enter Try.func9, Try.ntmps9
  go_wp2_with fail
  generalize ((((w.alloc (.cells (cpuCells c) 33)).alloc (.cells #[.slice a L.length cap] 34)).alloc (.cells zeroCpu 33)).alloc (.cells #[.slice none 0 0] 34)) = V at *
  have S0 : V.drew.cell? ⟨w.heap.size, 0, none⟩ = some (.int .u8 (c.A : Int)) ∧ V.drew.cell? ⟨w.heap.size, 1, none⟩ = some (.int .u8 (c.X : Int)) ∧ V.drew.cell? ⟨w.heap.size, 2, none⟩ = some (.int .u8 (c.Y : Int)) ∧ V.drew.cell? ⟨w.heap.size, 3, none⟩ = some (.int .u8 (c.S : Int)) ∧ V.drew.cell? ⟨w.heap.size, 4, none⟩ = some (.int .u16 (c.PC : Int)) ∧ V.drew.cell? ⟨w.heap.size, 5, none⟩ = some (.bool c.N) ∧ V.drew.cell? ⟨w.heap.size, 6, none⟩ = some (.bool c.V) ∧ V.drew.cell? ⟨w.heap.size, 7, none⟩ = some (.bool c.D) ∧ V.drew.cell? ⟨w.heap.size, 8, none⟩ = some (.bool c.I) ∧ V.drew.cell? ⟨w.heap.size, 9, none⟩ = some (.bool c.Z) ∧ V.drew.cell? ⟨w.heap.size, 10, none⟩ = some (.bool c.C) ∧ V.drew.cell? ⟨w.heap.size + 1, 0, none⟩ = some (.slice a L.length cap) := ⟨qB.drew.cell 0 _ rfl, qB.drew.cell 1 _ rfl, qB.drew.cell 2 _ rfl, qB.drew.cell 3 _ rfl, qB.drew.cell 4 _ rfl, qB.drew.cell 5 _ rfl, qB.drew.cell 6 _ rfl, qB.drew.cell 7 _ rfl, qB.drew.cell 8 _ rfl, qB.drew.cell 9 _ rfl, qB.drew.cell 10 _ rfl, rB.cell 0 _ rfl⟩
  have HV := Lib.hid hz4
  clear hz4
  have hd : Below V.heap.size V V := Below.refl _ _
  have S1 : V.cell? ⟨w.heap.size, 0, none⟩ = some (.int .u8 (c.A : Int)) ∧ V.cell? ⟨w.heap.size, 1, none⟩ = some (.int .u8 (c.X : Int)) ∧ V.cell? ⟨w.heap.size, 2, none⟩ = some (.int .u8 (c.Y : Int)) ∧ V.cell? ⟨w.heap.size, 3, none⟩ = some (.int .u8 (c.S : Int)) ∧ V.cell? ⟨w.heap.size, 4, none⟩ = some (.int .u16 (c.PC : Int)) ∧ V.cell? ⟨w.heap.size, 5, none⟩ = some (.bool c.N) ∧ V.cell? ⟨w.heap.size, 6, none⟩ = some (.bool c.V) ∧ V.cell? ⟨w.heap.size, 7, none⟩ = some (.bool c.D) ∧ V.cell? ⟨w.heap.size, 8, none⟩ = some (.bool c.I) ∧ V.cell? ⟨w.heap.size, 9, none⟩ = some (.bool c.Z) ∧ V.cell? ⟨w.heap.size, 10, none⟩ = some (.bool c.C) ∧ V.cell? ⟨w.heap.size + 1, 0, none⟩ = some (.slice a L.length cap) := S0
  have hp : True := trivial
  go_region_held3 (fun w' => w'.cell? ⟨w.heap.size, 0, none⟩ = some (.int .u8 (c.A : Int)) ∧ w'.cell? ⟨w.heap.size, 1, none⟩ = some (.int .u8 (c.X : Int)) ∧ w'.cell? ⟨w.heap.size, 2, none⟩ = some (.int .u8 (c.Y : Int)) ∧ w'.cell? ⟨w.heap.size, 3, none⟩ = some (.int .u8 (c.S : Int)) ∧ w'.cell? ⟨w.heap.size, 4, none⟩ = some (.int .u16 (c.PC : Int)) ∧ w'.cell? ⟨w.heap.size, 5, none⟩ = some (.bool c.N) ∧ w'.cell? ⟨w.heap.size, 6, none⟩ = some (.bool c.V) ∧ w'.cell? ⟨w.heap.size, 7, none⟩ = some (.bool c.D) ∧ w'.cell? ⟨w.heap.size, 8, none⟩ = some (.bool c.I) ∧ w'.cell? ⟨w.heap.size, 9, none⟩ = some (.bool c.Z) ∧ w'.cell? ⟨w.heap.size, 10, none⟩ = some (.bool c.C) ∧ w'.cell? ⟨w.heap.size + 1, 0, none⟩ = some (.slice a L.length cap)) (((try dsimp only); (first | (with_reducible exact S0) | (refine cells12 (V := V) (n := V.heap.size) (by (repeat (any_goals (first | (with_reducible exact hd) | (with_reducible exact Below.refl _ _) | (with_reducible refine Below.drew ?_) | (with_reducible refine Below.setCell ?_ ?_ _) | (with_reducible refine Below.alloc ?_ ?_ _)))); all_goals (first | (with_reducible exact Nat.le_refl _) | (simp; done) | (simp; omega) | omega | (have h9 := hd.size; omega) | (have h9 := hd.size; simp; omega) | (trace_state; omega))) (by have := HV.out; omega) (by have := HV.out; omega) S1)))) (first | (go_at_call 25; refine (busTo_no a L.length cap h _).mono ?_; rintro e w5 ⟨rfl, d5⟩; (have hd : Below V.heap.size V w5 := below_step (by (repeat (any_goals (first | (with_reducible exact hd) | (with_reducible exact Below.refl _ _) | (with_reducible refine Below.drew ?_) | (with_reducible refine Below.setCell ?_ ?_ _) | (with_reducible refine Below.alloc ?_ ?_ _)))); all_goals (first | (with_reducible exact Nat.le_refl _) | (simp; done) | (simp; omega) | omega | (have h9 := hd.size; omega) | (have h9 := hd.size; simp; omega) | (trace_state; omega))) d5 (Nat.le_refl _)); (first | (have hp := (BoxN.new _ 63 #[.int .u8 0, .int .u8 0, .int .u8 0, .int .u8 0, .int .u16 0, .bool false, .bool false, .bool false, .bool false, .bool false, .bool false, .nilIface, .string ⟨#[]⟩, .int .i64 0, .int .i64 0, .int .i64 0]).drew.below d5) | (have hp := (BoxN.new _ 63 #[.int .u8 0, .int .u8 0, .int .u8 0, .int .u8 0, .int .u16 0, .bool false, .bool false, .bool false, .bool false, .bool false, .bool false, .nilIface, .string ⟨#[]⟩, .int .i64 0, .int .i64 0, .int .i64 0]).below d5) | (have hp := hp.below d5) | (have hp := hp.drew.below d5) | skip); (first | ((have h16 := sixteen hp); (obtain ⟨m0, m1, m2, m3, m4, m5, m6, m7, m8, m9, m10, m11, m12, m13, m14, m15, mf⟩ := h16)) | skip)))
  · have pl : PlayAt (w5.alloc (.cells #[.int .u8 (c.A : Int), .int .u8 (c.X : Int), .int .u8 (c.Y : Int), .int .u8 (c.S : Int), .int .u16 (c.PC : Int), .bool c.N, .bool c.V, .bool c.D, .bool c.I, .bool c.Z, .bool c.C, .iface 79 (.agg #[]), .string ⟨#[]⟩, .int .i64 0, .int .i64 0, .int .i64 0] 63)) (fun i => w.heap.size + 4 ≤ i) (w5.heap.size) none ⟨⟨#[]⟩, 0, 0, 0⟩ ⟨c, ⟨[], []⟩⟩ := play_newV (o := none) (k := ⟨⟨#[]⟩, 0, 0, 0⟩) rfl rfl rfl rfl rfl (F := fun i => w.heap.size + 4 ≤ i) rfl (fun _ _ hf => hf) (by show w.heap.size + 4 ≤ w5.heap.size; have h8 := HV.out; have e5 : V.heap.size ≤ w5.heap.size := Nat.le_trans (by first | exact Nat.le_refl _ | (simp; done) | (simp; omega)) d5.size; omega) hc
    have dW : Below V.heap.size V (w5.alloc (.cells #[.int .u8 (c.A : Int), .int .u8 (c.X : Int), .int .u8 (c.Y : Int), .int .u8 (c.S : Int), .int .u16 (c.PC : Int), .bool c.N, .bool c.V, .bool c.D, .bool c.I, .bool c.Z, .bool c.C, .iface 79 (.agg #[]), .string ⟨#[]⟩, .int .i64 0, .int .i64 0, .int .i64 0] 63)) := (by (repeat (any_goals (first | (with_reducible exact hd) | (with_reducible exact Below.refl _ _) | (with_reducible refine Below.drew ?_) | (with_reducible refine Below.setCell ?_ ?_ _) | (with_reducible refine Below.alloc ?_ ?_ _)))); all_goals (first | (with_reducible exact Nat.le_refl _) | (simp; done) | (simp; omega) | omega | (have h9 := hd.size; omega) | (have h9 := hd.size; simp; omega) | (trace_state; omega)))
    generalize (w5.alloc (.cells #[.int .u8 (c.A : Int), .int .u8 (c.X : Int), .int .u8 (c.Y : Int), .int .u8 (c.S : Int), .int .u16 (c.PC : Int), .bool c.N, .bool c.V, .bool c.D, .bool c.I, .bool c.Z, .bool c.C, .iface 79 (.agg #[]), .string ⟨#[]⟩, .int .i64 0, .int .i64 0, .int .i64 0] 63)) = W9 at pl dW ⊢
    generalize w5.heap.size = P at pl ⊢
    have p0 := Play.start (N := 0) pl (fun i hi => by have h8 := HV.out; have h9 := dW.size; omega) (Nat.le_refl _)
    clear pl
    have y6 := yB.below dW
    have x6 := xB.below dW
    have hw9 := bstep hb4 dW
    have hz9 := dW.size
    go_wp2_with fail
    refine (p0.serve_true (by omega) rfl).mono ?_
    rintro e wA ⟨rfl, pA⟩
    have yA := y6.turn pA.turn (by show ¬ (w.heap.size + 4 ≤ w.heap.size + 1 + 1); omega)
    have xA := x6.turn pA.turn (by show ¬ (w.heap.size + 4 ≤ w.heap.size + 1 + 1 + 1); omega)
    have hwA : Below w.heap.size w wA := hw9.trans (pA.turn.below (n := w.heap.size) (fun i hi hf => by have h9 : w.heap.size + 4 ≤ i := hf; omega) hw9.size)
    have hzA := pA.turn.size
    clear y6 x6 p0
    go_wp2_with fail
    refine (told_none pA).mono ?_
    rintro e wZ ⟨rfl, dZ⟩
    have yZ := yA.below dZ
    have xZ := xA.below dZ
    have HX := Lib.hid (bstep hwA dZ)
    have HZ := Lib.hid (show w.heap.size + 4 ≤ wZ.heap.size by have h8 := HV.out; have h9 := dZ.size; omega)
    obtain ⟨h0, h1, h2, h3, h4, h5, h6, h7, h8, h9, h10, f1⟩ := eleven yZ
    have xc := xZ.cell 0 _ rfl
    have fx := fun k => xZ.frozen k
    clear yZ xZ yA xA pA dZ hwA
    go_wp2
    refine bodyPost_ret (v := .tuple #[cpuV cpu0, ramV (.slice none 0 0), .slice none 0 0]) (by simp [results, Try.results9, go_sem, h0, h1, h2, h3, h4, h5, h6, h7, h8, h9, h10, xc, cpu0]) rfl ⟨_, _, rfl, ownNil _ _, World.ownsRow_nil _ _ _ _, fun k ek => by simp [Value.ownBlock] at ek, ?_⟩
    repeat (any_goals (first | (with_reducible exact HX.out) | (with_reducible refine Below.drew ?_) | (with_reducible refine Below.setCell ?_ ?_ _) | (with_reducible refine Below.alloc ?_ ?_ _)))
    all_goals (first | (simp; done) | (simp; omega) | omega)
  · have pl : PlayAt ((((((((((((((((w5.setCell ⟨V.heap.size, 0, none⟩ (.int .u8 (c.A : Int))).setCell ⟨V.heap.size, 1, none⟩ (.int .u8 (c.X : Int))).setCell ⟨V.heap.size, 2, none⟩ (.int .u8 (c.Y : Int))).setCell ⟨V.heap.size, 3, none⟩ (.int .u8 (c.S : Int))).setCell ⟨V.heap.size, 4, none⟩ (.int .u16 (c.PC : Int))).setCell ⟨V.heap.size, 5, none⟩ (.bool c.N)).setCell ⟨V.heap.size, 6, none⟩ (.bool c.V)).setCell ⟨V.heap.size, 7, none⟩ (.bool c.D)).setCell ⟨V.heap.size, 8, none⟩ (.bool c.I)).setCell ⟨V.heap.size, 9, none⟩ (.bool c.Z)).setCell ⟨V.heap.size, 10, none⟩ (.bool c.C)).setCell ⟨V.heap.size, 11, none⟩ (.iface 79 (.agg #[]))).setCell ⟨V.heap.size, 12, none⟩ (.string ⟨#[]⟩)).setCell ⟨V.heap.size, 13, none⟩ (.int .i64 0)).setCell ⟨V.heap.size, 14, none⟩ (.int .i64 0)).setCell ⟨V.heap.size, 15, none⟩ (.int .i64 0)) (fun i => w.heap.size + 4 ≤ i) (V.heap.size) none ⟨⟨#[]⟩, 0, 0, 0⟩ ⟨c, ⟨[], []⟩⟩ := play_oldV (o := none) (k := ⟨⟨#[]⟩, 0, 0, 0⟩) rfl rfl rfl rfl rfl (F := fun i => w.heap.size + 4 ≤ i ∧ i ≠ V.heap.size) hp rfl rfl (fun _ _ hf => hf.1) (fun hf => hf.2 rfl) (by show w.heap.size + 4 ≤ V.heap.size; have h8 := HV.out; have e5 : V.heap.size ≤ w5.heap.size := Nat.le_trans (by first | exact Nat.le_refl _ | (simp; done) | (simp; omega)) d5.size; omega) hc
    have dW : Below V.heap.size V ((((((((((((((((w5.setCell ⟨V.heap.size, 0, none⟩ (.int .u8 (c.A : Int))).setCell ⟨V.heap.size, 1, none⟩ (.int .u8 (c.X : Int))).setCell ⟨V.heap.size, 2, none⟩ (.int .u8 (c.Y : Int))).setCell ⟨V.heap.size, 3, none⟩ (.int .u8 (c.S : Int))).setCell ⟨V.heap.size, 4, none⟩ (.int .u16 (c.PC : Int))).setCell ⟨V.heap.size, 5, none⟩ (.bool c.N)).setCell ⟨V.heap.size, 6, none⟩ (.bool c.V)).setCell ⟨V.heap.size, 7, none⟩ (.bool c.D)).setCell ⟨V.heap.size, 8, none⟩ (.bool c.I)).setCell ⟨V.heap.size, 9, none⟩ (.bool c.Z)).setCell ⟨V.heap.size, 10, none⟩ (.bool c.C)).setCell ⟨V.heap.size, 11, none⟩ (.iface 79 (.agg #[]))).setCell ⟨V.heap.size, 12, none⟩ (.string ⟨#[]⟩)).setCell ⟨V.heap.size, 13, none⟩ (.int .i64 0)).setCell ⟨V.heap.size, 14, none⟩ (.int .i64 0)).setCell ⟨V.heap.size, 15, none⟩ (.int .i64 0)) := (by (repeat (any_goals (first | (with_reducible exact hd) | (with_reducible exact Below.refl _ _) | (with_reducible refine Below.drew ?_) | (with_reducible refine Below.setCell ?_ ?_ _) | (with_reducible refine Below.alloc ?_ ?_ _)))); all_goals (first | (with_reducible exact Nat.le_refl _) | (simp; done) | (simp; omega) | omega | (have h9 := hd.size; omega) | (have h9 := hd.size; simp; omega) | (trace_state; omega)))
    generalize ((((((((((((((((w5.setCell ⟨V.heap.size, 0, none⟩ (.int .u8 (c.A : Int))).setCell ⟨V.heap.size, 1, none⟩ (.int .u8 (c.X : Int))).setCell ⟨V.heap.size, 2, none⟩ (.int .u8 (c.Y : Int))).setCell ⟨V.heap.size, 3, none⟩ (.int .u8 (c.S : Int))).setCell ⟨V.heap.size, 4, none⟩ (.int .u16 (c.PC : Int))).setCell ⟨V.heap.size, 5, none⟩ (.bool c.N)).setCell ⟨V.heap.size, 6, none⟩ (.bool c.V)).setCell ⟨V.heap.size, 7, none⟩ (.bool c.D)).setCell ⟨V.heap.size, 8, none⟩ (.bool c.I)).setCell ⟨V.heap.size, 9, none⟩ (.bool c.Z)).setCell ⟨V.heap.size, 10, none⟩ (.bool c.C)).setCell ⟨V.heap.size, 11, none⟩ (.iface 79 (.agg #[]))).setCell ⟨V.heap.size, 12, none⟩ (.string ⟨#[]⟩)).setCell ⟨V.heap.size, 13, none⟩ (.int .i64 0)).setCell ⟨V.heap.size, 14, none⟩ (.int .i64 0)).setCell ⟨V.heap.size, 15, none⟩ (.int .i64 0)) = W9 at pl dW ⊢
    generalize V.heap.size = P at pl ⊢
    have p0 := Play.start (N := 0) pl (fun i hi => by have h8 := HV.out; have h9 := dW.size; omega) (Nat.le_refl _)
    clear pl
    have y6 := yB.below dW
    have x6 := xB.below dW
    have hw9 := bstep hb4 dW
    have hz9 := dW.size
    go_wp2_with fail
    refine (p0.serve_true (by omega) rfl).mono ?_
    rintro e wA ⟨rfl, pA⟩
    have yA := y6.turn pA.turn (by show ¬ (w.heap.size + 4 ≤ w.heap.size + 1 + 1); omega)
    have xA := x6.turn pA.turn (by show ¬ (w.heap.size + 4 ≤ w.heap.size + 1 + 1 + 1); omega)
    have hwA : Below w.heap.size w wA := hw9.trans (pA.turn.below (n := w.heap.size) (fun i hi hf => by have h9 : w.heap.size + 4 ≤ i := hf; omega) hw9.size)
    have hzA := pA.turn.size
    clear y6 x6 p0
    go_wp2_with fail
    refine (told_none pA).mono ?_
    rintro e wZ ⟨rfl, dZ⟩
    have yZ := yA.below dZ
    have xZ := xA.below dZ
    have HX := Lib.hid (bstep hwA dZ)
    have HZ := Lib.hid (show w.heap.size + 4 ≤ wZ.heap.size by have h8 := HV.out; have h9 := dZ.size; omega)
    obtain ⟨h0, h1, h2, h3, h4, h5, h6, h7, h8, h9, h10, f1⟩ := eleven yZ
    have xc := xZ.cell 0 _ rfl
    have fx := fun k => xZ.frozen k
    clear yZ xZ yA xA pA dZ hwA
    go_wp2
    refine bodyPost_ret (v := .tuple #[cpuV cpu0, ramV (.slice none 0 0), .slice none 0 0]) (by simp [results, Try.results9, go_sem, h0, h1, h2, h3, h4, h5, h6, h7, h8, h9, h10, xc, cpu0]) rfl ⟨_, _, rfl, ownNil _ _, World.ownsRow_nil _ _ _ _, fun k ek => by simp [Value.ownBlock] at ek, ?_⟩
    repeat (any_goals (first | (with_reducible exact HX.out) | (with_reducible refine Below.drew ?_) | (with_reducible refine Below.setCell ?_ ?_ _) | (with_reducible refine Below.alloc ?_ ?_ _)))
    all_goals (first | (simp; done) | (simp; omega) | omega)

set_option maxRecDepth 100000 in
set_option maxHeartbeats 4000000 in
theorem implServe_no_false (c : CpuN) (hc : c.ok) (a : Option Addr) (cap : Nat) (L : List Nat) (h : ramN L.length = false) (w : World) (hr : RowB w a L) (hcap : L.length ≤ cap) :
    Calls Try.prog 9 #[cpuV c, ramV (.slice a L.length cap), .bool false] w (Stepped w (cpu0, ⟨[], []⟩)) := by
  have al : ∀ (W : World) (o : Obj), Below W.heap.size W (W.alloc o) := fun W o => (Below.refl _ _).alloc (Nat.le_refl _) _
  have hb4 : Below w.heap.size w ((((w.alloc (.cells (cpuCells c) 33)).alloc (.cells #[.slice a L.length cap] 34)).alloc (.cells zeroCpu 33)).alloc (.cells #[.slice none 0 0] 34)) := ((((Below.refl _ _).alloc (Nat.le_refl _) _).alloc (by simp) _).alloc (by simp; omega) _).alloc (by simp; omega) _
  obtain ⟨qB, rB, yB, xB, _, _⟩ := four_call (Below.refl _ ((((w.alloc (.cells (cpuCells c) 33)).alloc (.cells #[.slice a L.length cap] 34)).alloc (.cells zeroCpu 33)).alloc (.cells #[.slice none 0 0] 34)))
  have hz4 : ((((w.alloc (.cells (cpuCells c) 33)).alloc (.cells #[.slice a L.length cap] 34)).alloc (.cells zeroCpu 33)).alloc (.cells #[.slice none 0 0] 34)).heap.size = w.heap.size + 4 := by simp
  have HR := Lib.hid (RowB.below hr hb4)
  clear hr al
  go_enter Try.func9, Try.ntmps9
  go_wp2_with fail
  generalize ((((w.alloc (.cells (cpuCells c) 33)).alloc (.cells #[.slice a L.length cap] 34)).alloc (.cells zeroCpu 33)).alloc (.cells #[.slice none 0 0] 34)) = V at *
  have S0 : V.drew.cell? ⟨w.heap.size, 0, none⟩ = some (.int .u8 (c.A : Int)) ∧ V.drew.cell? ⟨w.heap.size, 1, none⟩ = some (.int .u8 (c.X : Int)) ∧ V.drew.cell? ⟨w.heap.size, 2, none⟩ = some (.int .u8 (c.Y : Int)) ∧ V.drew.cell? ⟨w.heap.size, 3, none⟩ = some (.int .u8 (c.S : Int)) ∧ V.drew.cell? ⟨w.heap.size, 4, none⟩ = some (.int .u16 (c.PC : Int)) ∧ V.drew.cell? ⟨w.heap.size, 5, none⟩ = some (.bool c.N) ∧ V.drew.cell? ⟨w.heap.size, 6, none⟩ = some (.bool c.V) ∧ V.drew.cell? ⟨w.heap.size, 7, none⟩ = some (.bool c.D) ∧ V.drew.cell? ⟨w.heap.size, 8, none⟩ = some (.bool c.I) ∧ V.drew.cell? ⟨w.heap.size, 9, none⟩ = some (.bool c.Z) ∧ V.drew.cell? ⟨w.heap.size, 10, none⟩ = some (.bool c.C) ∧ V.drew.cell? ⟨w.heap.size + 1, 0, none⟩ = some (.slice a L.length cap) := ⟨qB.drew.cell 0 _ rfl, qB.drew.cell 1 _ rfl, qB.drew.cell 2 _ rfl, qB.drew.cell 3 _ rfl, qB.drew.cell 4 _ rfl, qB.drew.cell 5 _ rfl, qB.drew.cell 6 _ rfl, qB.drew.cell 7 _ rfl, qB.drew.cell 8 _ rfl, qB.drew.cell 9 _ rfl, qB.drew.cell 10 _ rfl, rB.cell 0 _ rfl⟩
  have HV := Lib.hid hz4
  clear hz4
  have hd : Below V.heap.size V V := Below.refl _ _
  have S1 : V.cell? ⟨w.heap.size, 0, none⟩ = some (.int .u8 (c.A : Int)) ∧ V.cell? ⟨w.heap.size, 1, none⟩ = some (.int .u8 (c.X : Int)) ∧ V.cell? ⟨w.heap.size, 2, none⟩ = some (.int .u8 (c.Y : Int)) ∧ V.cell? ⟨w.heap.size, 3, none⟩ = some (.int .u8 (c.S : Int)) ∧ V.cell? ⟨w.heap.size, 4, none⟩ = some (.int .u16 (c.PC : Int)) ∧ V.cell? ⟨w.heap.size, 5, none⟩ = some (.bool c.N) ∧ V.cell? ⟨w.heap.size, 6, none⟩ = some (.bool c.V) ∧ V.cell? ⟨w.heap.size, 7, none⟩ = some (.bool c.D) ∧ V.cell? ⟨w.heap.size, 8, none⟩ = some (.bool c.I) ∧ V.cell? ⟨w.heap.size, 9, none⟩ = some (.bool c.Z) ∧ V.cell? ⟨w.heap.size, 10, none⟩ = some (.bool c.C) ∧ V.cell? ⟨w.heap.size + 1, 0, none⟩ = some (.slice a L.length cap) := S0
  have hp : True := trivial
  go_region_held3 (fun w' => w'.cell? ⟨w.heap.size, 0, none⟩ = some (.int .u8 (c.A : Int)) ∧ w'.cell? ⟨w.heap.size, 1, none⟩ = some (.int .u8 (c.X : Int)) ∧ w'.cell? ⟨w.heap.size, 2, none⟩ = some (.int .u8 (c.Y : Int)) ∧ w'.cell? ⟨w.heap.size, 3, none⟩ = some (.int .u8 (c.S : Int)) ∧ w'.cell? ⟨w.heap.size, 4, none⟩ = some (.int .u16 (c.PC : Int)) ∧ w'.cell? ⟨w.heap.size, 5, none⟩ = some (.bool c.N) ∧ w'.cell? ⟨w.heap.size, 6, none⟩ = some (.bool c.V) ∧ w'.cell? ⟨w.heap.size, 7, none⟩ = some (.bool c.D) ∧ w'.cell? ⟨w.heap.size, 8, none⟩ = some (.bool c.I) ∧ w'.cell? ⟨w.heap.size, 9, none⟩ = some (.bool c.Z) ∧ w'.cell? ⟨w.heap.size, 10, none⟩ = some (.bool c.C) ∧ w'.cell? ⟨w.heap.size + 1, 0, none⟩ = some (.slice a L.length cap)) (((try dsimp only); (first | (with_reducible exact S0) | (refine cells12 (V := V) (n := V.heap.size) (by (repeat (any_goals (first | (with_reducible exact hd) | (with_reducible exact Below.refl _ _) | (with_reducible refine Below.drew ?_) | (with_reducible refine Below.setCell ?_ ?_ _) | (with_reducible refine Below.alloc ?_ ?_ _)))); all_goals (first | (with_reducible exact Nat.le_refl _) | (simp; done) | (simp; omega) | omega | (have h9 := hd.size; omega) | (have h9 := hd.size; simp; omega) | (trace_state; omega))) (by have := HV.out; omega) (by have := HV.out; omega) S1)))) (first | (go_at_call 25; refine (busTo_no a L.length cap h _).mono ?_; rintro e w5 ⟨rfl, d5⟩; (have hd : Below V.heap.size V w5 := below_step (by (repeat (any_goals (first | (with_reducible exact hd) | (with_reducible exact Below.refl _ _) | (with_reducible refine Below.drew ?_) | (with_reducible refine Below.setCell ?_ ?_ _) | (with_reducible refine Below.alloc ?_ ?_ _)))); all_goals (first | (with_reducible exact Nat.le_refl _) | (simp; done) | (simp; omega) | omega | (have h9 := hd.size; omega) | (have h9 := hd.size; simp; omega) | (trace_state; omega))) d5 (Nat.le_refl _)); (first | (have hp := (BoxN.new _ 63 #[.int .u8 0, .int .u8 0, .int .u8 0, .int .u8 0, .int .u16 0, .bool false, .bool false, .bool false, .bool false, .bool false, .bool false, .nilIface, .string ⟨#[]⟩, .int .i64 0, .int .i64 0, .int .i64 0]).drew.below d5) | (have hp := (BoxN.new _ 63 #[.int .u8 0, .int .u8 0, .int .u8 0, .int .u8 0, .int .u16 0, .bool false, .bool false, .bool false, .bool false, .bool false, .bool false, .nilIface, .string ⟨#[]⟩, .int .i64 0, .int .i64 0, .int .i64 0]).below d5) | (have hp := hp.below d5) | (have hp := hp.drew.below d5) | skip); (first | ((have h16 := sixteen hp); (obtain ⟨m0, m1, m2, m3, m4, m5, m6, m7, m8, m9, m10, m11, m12, m13, m14, m15, mf⟩ := h16)) | skip)))
  · have pl : PlayAt (w5.alloc (.cells #[.int .u8 (c.A : Int), .int .u8 (c.X : Int), .int .u8 (c.Y : Int), .int .u8 (c.S : Int), .int .u16 (c.PC : Int), .bool c.N, .bool c.V, .bool c.D, .bool c.I, .bool c.Z, .bool c.C, .iface 79 (.agg #[]), .string ⟨#[]⟩, .int .i64 0, .int .i64 0, .int .i64 0] 63)) (fun i => w.heap.size + 4 ≤ i) (w5.heap.size) none ⟨⟨#[]⟩, 0, 0, 0⟩ ⟨c, ⟨[], []⟩⟩ := play_newV (o := none) (k := ⟨⟨#[]⟩, 0, 0, 0⟩) rfl rfl rfl rfl rfl (F := fun i => w.heap.size + 4 ≤ i) rfl (fun _ _ hf => hf) (by show w.heap.size + 4 ≤ w5.heap.size; have h8 := HV.out; have e5 : V.heap.size ≤ w5.heap.size := Nat.le_trans (by first | exact Nat.le_refl _ | (simp; done) | (simp; omega)) d5.size; omega) hc
    have dW : Below V.heap.size V (w5.alloc (.cells #[.int .u8 (c.A : Int), .int .u8 (c.X : Int), .int .u8 (c.Y : Int), .int .u8 (c.S : Int), .int .u16 (c.PC : Int), .bool c.N, .bool c.V, .bool c.D, .bool c.I, .bool c.Z, .bool c.C, .iface 79 (.agg #[]), .string ⟨#[]⟩, .int .i64 0, .int .i64 0, .int .i64 0] 63)) := (by (repeat (any_goals (first | (with_reducible exact hd) | (with_reducible exact Below.refl _ _) | (with_reducible refine Below.drew ?_) | (with_reducible refine Below.setCell ?_ ?_ _) | (with_reducible refine Below.alloc ?_ ?_ _)))); all_goals (first | (with_reducible exact Nat.le_refl _) | (simp; done) | (simp; omega) | omega | (have h9 := hd.size; omega) | (have h9 := hd.size; simp; omega) | (trace_state; omega)))
    generalize (w5.alloc (.cells #[.int .u8 (c.A : Int), .int .u8 (c.X : Int), .int .u8 (c.Y : Int), .int .u8 (c.S : Int), .int .u16 (c.PC : Int), .bool c.N, .bool c.V, .bool c.D, .bool c.I, .bool c.Z, .bool c.C, .iface 79 (.agg #[]), .string ⟨#[]⟩, .int .i64 0, .int .i64 0, .int .i64 0] 63)) = W9 at pl dW ⊢
    generalize w5.heap.size = P at pl ⊢
    have p0 := Play.start (N := 0) pl (fun i hi => by have h8 := HV.out; have h9 := dW.size; omega) (Nat.le_refl _)
    clear pl
    have y6 := yB.below dW
    have x6 := xB.below dW
    have hw9 := bstep hb4 dW
    have hz9 := dW.size
    go_wp2_with fail
    refine (p0.serve_false (by omega) rfl).mono ?_
    rintro e wA ⟨rfl, pA⟩
    have yA := y6.turn pA.turn (by show ¬ (w.heap.size + 4 ≤ w.heap.size + 1 + 1); omega)
    have xA := x6.turn pA.turn (by show ¬ (w.heap.size + 4 ≤ w.heap.size + 1 + 1 + 1); omega)
    have hwA : Below w.heap.size w wA := hw9.trans (pA.turn.below (n := w.heap.size) (fun i hi hf => by have h9 : w.heap.size + 4 ≤ i := hf; omega) hw9.size)
    have hzA := pA.turn.size
    clear y6 x6 p0
    go_wp2_with fail
    refine (told_none pA).mono ?_
    rintro e wZ ⟨rfl, dZ⟩
    have yZ := yA.below dZ
    have xZ := xA.below dZ
    have HX := Lib.hid (bstep hwA dZ)
    have HZ := Lib.hid (show w.heap.size + 4 ≤ wZ.heap.size by have h8 := HV.out; have h9 := dZ.size; omega)
    obtain ⟨h0, h1, h2, h3, h4, h5, h6, h7, h8, h9, h10, f1⟩ := eleven yZ
    have xc := xZ.cell 0 _ rfl
    have fx := fun k => xZ.frozen k
    clear yZ xZ yA xA pA dZ hwA
    go_wp2
    refine bodyPost_ret (v := .tuple #[cpuV cpu0, ramV (.slice none 0 0), .slice none 0 0]) (by simp [results, Try.results9, go_sem, h0, h1, h2, h3, h4, h5, h6, h7, h8, h9, h10, xc, cpu0]) rfl ⟨_, _, rfl, ownNil _ _, World.ownsRow_nil _ _ _ _, fun k ek => by simp [Value.ownBlock] at ek, ?_⟩
    repeat (any_goals (first | (with_reducible exact HX.out) | (with_reducible refine Below.drew ?_) | (with_reducible refine Below.setCell ?_ ?_ _) | (with_reducible refine Below.alloc ?_ ?_ _)))
    all_goals (first | (simp; done) | (simp; omega) | omega)
  · have pl : PlayAt ((((((((((((((((w5.setCell ⟨V.heap.size, 0, none⟩ (.int .u8 (c.A : Int))).setCell ⟨V.heap.size, 1, none⟩ (.int .u8 (c.X : Int))).setCell ⟨V.heap.size, 2, none⟩ (.int .u8 (c.Y : Int))).setCell ⟨V.heap.size, 3, none⟩ (.int .u8 (c.S : Int))).setCell ⟨V.heap.size, 4, none⟩ (.int .u16 (c.PC : Int))).setCell ⟨V.heap.size, 5, none⟩ (.bool c.N)).setCell ⟨V.heap.size, 6, none⟩ (.bool c.V)).setCell ⟨V.heap.size, 7, none⟩ (.bool c.D)).setCell ⟨V.heap.size, 8, none⟩ (.bool c.I)).setCell ⟨V.heap.size, 9, none⟩ (.bool c.Z)).setCell ⟨V.heap.size, 10, none⟩ (.bool c.C)).setCell ⟨V.heap.size, 11, none⟩ (.iface 79 (.agg #[]))).setCell ⟨V.heap.size, 12, none⟩ (.string ⟨#[]⟩)).setCell ⟨V.heap.size, 13, none⟩ (.int .i64 0)).setCell ⟨V.heap.size, 14, none⟩ (.int .i64 0)).setCell ⟨V.heap.size, 15, none⟩ (.int .i64 0)) (fun i => w.heap.size + 4 ≤ i) (V.heap.size) none ⟨⟨#[]⟩, 0, 0, 0⟩ ⟨c, ⟨[], []⟩⟩ := play_oldV (o := none) (k := ⟨⟨#[]⟩, 0, 0, 0⟩) rfl rfl rfl rfl rfl (F := fun i => w.heap.size + 4 ≤ i ∧ i ≠ V.heap.size) hp rfl rfl (fun _ _ hf => hf.1) (fun hf => hf.2 rfl) (by show w.heap.size + 4 ≤ V.heap.size; have h8 := HV.out; have e5 : V.heap.size ≤ w5.heap.size := Nat.le_trans (by first | exact Nat.le_refl _ | (simp; done) | (simp; omega)) d5.size; omega) hc
    have dW : Below V.heap.size V ((((((((((((((((w5.setCell ⟨V.heap.size, 0, none⟩ (.int .u8 (c.A : Int))).setCell ⟨V.heap.size, 1, none⟩ (.int .u8 (c.X : Int))).setCell ⟨V.heap.size, 2, none⟩ (.int .u8 (c.Y : Int))).setCell ⟨V.heap.size, 3, none⟩ (.int .u8 (c.S : Int))).setCell ⟨V.heap.size, 4, none⟩ (.int .u16 (c.PC : Int))).setCell ⟨V.heap.size, 5, none⟩ (.bool c.N)).setCell ⟨V.heap.size, 6, none⟩ (.bool c.V)).setCell ⟨V.heap.size, 7, none⟩ (.bool c.D)).setCell ⟨V.heap.size, 8, none⟩ (.bool c.I)).setCell ⟨V.heap.size, 9, none⟩ (.bool c.Z)).setCell ⟨V.heap.size, 10, none⟩ (.bool c.C)).setCell ⟨V.heap.size, 11, none⟩ (.iface 79 (.agg #[]))).setCell ⟨V.heap.size, 12, none⟩ (.string ⟨#[]⟩)).setCell ⟨V.heap.size, 13, none⟩ (.int .i64 0)).setCell ⟨V.heap.size, 14, none⟩ (.int .i64 0)).setCell ⟨V.heap.size, 15, none⟩ (.int .i64 0)) := (by (repeat (any_goals (first | (with_reducible exact hd) | (with_reducible exact Below.refl _ _) | (with_reducible refine Below.drew ?_) | (with_reducible refine Below.setCell ?_ ?_ _) | (with_reducible refine Below.alloc ?_ ?_ _)))); all_goals (first | (with_reducible exact Nat.le_refl _) | (simp; done) | (simp; omega) | omega | (have h9 := hd.size; omega) | (have h9 := hd.size; simp; omega) | (trace_state; omega)))
    generalize ((((((((((((((((w5.setCell ⟨V.heap.size, 0, none⟩ (.int .u8 (c.A : Int))).setCell ⟨V.heap.size, 1, none⟩ (.int .u8 (c.X : Int))).setCell ⟨V.heap.size, 2, none⟩ (.int .u8 (c.Y : Int))).setCell ⟨V.heap.size, 3, none⟩ (.int .u8 (c.S : Int))).setCell ⟨V.heap.size, 4, none⟩ (.int .u16 (c.PC : Int))).setCell ⟨V.heap.size, 5, none⟩ (.bool c.N)).setCell ⟨V.heap.size, 6, none⟩ (.bool c.V)).setCell ⟨V.heap.size, 7, none⟩ (.bool c.D)).setCell ⟨V.heap.size, 8, none⟩ (.bool c.I)).setCell ⟨V.heap.size, 9, none⟩ (.bool c.Z)).setCell ⟨V.heap.size, 10, none⟩ (.bool c.C)).setCell ⟨V.heap.size, 11, none⟩ (.iface 79 (.agg #[]))).setCell ⟨V.heap.size, 12, none⟩ (.string ⟨#[]⟩)).setCell ⟨V.heap.size, 13, none⟩ (.int .i64 0)).setCell ⟨V.heap.size, 14, none⟩ (.int .i64 0)).setCell ⟨V.heap.size, 15, none⟩ (.int .i64 0)) = W9 at pl dW ⊢
    generalize V.heap.size = P at pl ⊢
    have p0 := Play.start (N := 0) pl (fun i hi => by have h8 := HV.out; have h9 := dW.size; omega) (Nat.le_refl _)
    clear pl
    have y6 := yB.below dW
    have x6 := xB.below dW
    have hw9 := bstep hb4 dW
    have hz9 := dW.size
    go_wp2_with fail
    refine (p0.serve_false (by omega) rfl).mono ?_
    rintro e wA ⟨rfl, pA⟩
    have yA := y6.turn pA.turn (by show ¬ (w.heap.size + 4 ≤ w.heap.size + 1 + 1); omega)
    have xA := x6.turn pA.turn (by show ¬ (w.heap.size + 4 ≤ w.heap.size + 1 + 1 + 1); omega)
    have hwA : Below w.heap.size w wA := hw9.trans (pA.turn.below (n := w.heap.size) (fun i hi hf => by have h9 : w.heap.size + 4 ≤ i := hf; omega) hw9.size)
    have hzA := pA.turn.size
    clear y6 x6 p0
    go_wp2_with fail
    refine (told_none pA).mono ?_
    rintro e wZ ⟨rfl, dZ⟩
    have yZ := yA.below dZ
    have xZ := xA.below dZ
    have HX := Lib.hid (bstep hwA dZ)
    have HZ := Lib.hid (show w.heap.size + 4 ≤ wZ.heap.size by have h8 := HV.out; have h9 := dZ.size; omega)
    obtain ⟨h0, h1, h2, h3, h4, h5, h6, h7, h8, h9, h10, f1⟩ := eleven yZ
    have xc := xZ.cell 0 _ rfl
    have fx := fun k => xZ.frozen k
    clear yZ xZ yA xA pA dZ hwA
    go_wp2
    refine bodyPost_ret (v := .tuple #[cpuV cpu0, ramV (.slice none 0 0), .slice none 0 0]) (by simp [results, Try.results9, go_sem, h0, h1, h2, h3, h4, h5, h6, h7, h8, h9, h10, xc, cpu0]) rfl ⟨_, _, rfl, ownNil _ _, World.ownsRow_nil _ _ _ _, fun k ek => by simp [Value.ownBlock] at ek, ?_⟩
    repeat (any_goals (first | (with_reducible exact HX.out) | (with_reducible refine Below.drew ?_) | (with_reducible refine Below.setCell ?_ ?_ _) | (with_reducible refine Below.alloc ?_ ?_ _)))
    all_goals (first | (simp; done) | (simp; omega) | omega)

end Go.Proofs.Ytblchdmemhhcbaa
