/-
  The exact law of UnitAt.
-/
import Derived.Test.YtckfdbjjjgfbfaaQUnitAt
import Derived.Test.YtckfdbjjjgfbfaaQShotH
import Derived.Test.YtckfdbjjjgfbfaaQRegMore
import Derived.Deep.DeepCutAuto
namespace Go.Proofs.Ytckfdbjjjgfbfaa
set_option linter.unusedVariables false
set_option linter.unusedSimpArgs false
open Go.RowKit

theorem unitReg_ops (ops : Array Oper) (h : regionOps 10 (Try.f5.body.getD .skip) = some ops) : backward ops = true ∧ ops.size = 5 ∧ IsOp ops 0 (some 26) (.load 35 (.tmp 7)) ∧ IsOp ops 1 (some 27) (.load 52 (.tmp 2)) ∧ IsOp ops 2 (some 28) (.call ⟨.value (.func 17), #[.tmp 27], #[52]⟩) ∧ IsOp ops 3 (some 29) (.call ⟨.value (.func 18), #[.tmp 26, .tmp 28], #[35, 35]⟩) ∧ IsOp ops 4 (some 30) (.unOp .not 4 (.tmp 29)) ∧ Waits ops 2 1 ∧ Waits ops 3 0 ∧ Waits ops 3 2 ∧ Waits ops 4 3 := by
  obtain rfl : ops = (regionOps 10 (Try.f5.body.getD .skip)).getD #[] := by rw [h]; rfl
  exact ⟨by kernel_rfl, by kernel_rfl, by unfold IsOp; kernel_rfl, by unfold IsOp; kernel_rfl, by unfold IsOp; kernel_rfl, by unfold IsOp; kernel_rfl, by unfold IsOp; kernel_rfl, by unfold Waits; kernel_rfl, by unfold Waits; kernel_rfl, by unfold Waits; kernel_rfl, by unfold Waits; kernel_rfl⟩

abbrev unitReg_I (s : ShotI) (am ta sa pa am' ta' sa' pa' : Option Addr) (cm ct cs cp cm' ct' cs' cp' : Nat) (V : World) (a0 : Act) (D : Nat → Prop) (a : Act) (w : World) : Prop :=
  FrameIs a0 [26, 27, 28, 29, 30] a ∧ Below V.heap.size V w ∧ ∃ (lo : Nat) (hi : Nat) (t1 : Option Addr) (t2 : Option Addr) (t3 : Option Addr) (t4 : Option Addr) (k1 : Nat) (k2 : Nat) (k3 : Nat) (k4 : Nat), (D 0 → a.eval (.tmp 26) = .agg (shotCells s.cpu (.slice am' s.mem.length cm') (.slice ta' s.trace.length ct') (.slice sa' s.starts.length cs') (.slice pa' s.cpus.length cp') s.jam)) ∧ (D 1 → a.eval (.tmp 27) = .agg (shotCells s.cpu (.slice am s.mem.length cm) (.slice ta s.trace.length ct) (.slice sa s.starts.length cs) (.slice pa s.cpus.length cp) s.jam)) ∧ (D 2 → a.eval (.tmp 28) = shotV s.cpu (.slice t1 s.mem.length k1) (.slice t2 s.trace.length k2) (.slice t3 s.starts.length k3) (.slice t4 s.cpus.length k4) s.jam ∧ (ShotOwn w lo hi (.slice t1 s.mem.length k1) (.slice t2 s.trace.length k2) (.slice t3 s.starts.length k3) (.slice t4 s.cpus.length k4) s)) ∧ (D 3 → a.eval (.tmp 29) = .bool true ∧ D 2) ∧ (D 4 → a.eval (.tmp 30) = .bool false ∧ D 2)

set_option maxRecDepth 100000 in
set_option maxHeartbeats 4000000 in
theorem unitReg (s : ShotI) (am ta sa pa am' ta' sa' pa' : Option Addr) (cm ct cs cp cm' ct' cs' cp' : Nat) (hs : s.small) (A X : Nat) (V : World) (hA : BoxN V A 52 (shotCells s.cpu (.slice am s.mem.length cm) (.slice ta s.trace.length ct) (.slice sa s.starts.length cs) (.slice pa s.cpus.length cp) s.jam)) (hX : BoxN V X 35 (shotCells s.cpu (.slice am' s.mem.length cm') (.slice ta' s.trace.length ct') (.slice sa' s.starts.length cs') (.slice pa' s.cpus.length cp') s.jam)) (hr : ShotRows V am ta sa pa s) (hx : ShotRows V am' ta' sa' pa' s) (a0 : Act) (h2 : a0.eval (.tmp 2) = .pointer (some ⟨A, 0, none⟩)) (h7 : a0.eval (.tmp 7) = .pointer (some ⟨X, 0, none⟩)) (hsz : a0.tmps.size = 31) (Q : Exit → Act → World → Prop)
    (hQ : ∀ a w, FrameIs a0 [26, 27, 28, 29, 30] a → a.eval (.tmp 30) = .bool false ∧ Below V.heap.size V w → Q .normal a w)
    (ops : Array Oper) (hops : regionOps 10 (Try.f5.body.getD .skip) = some ops) (id : Nat) : (Code.region id ops true).wp Try.prog Q a0 V := by
  obtain ⟨hbk, hn, o0, o1, o2, o3, o4, u2_1, u3_0, u3_2, u4_3⟩ := unitReg_ops ops hops
  clear hops
  refine wp_region_facts (by kernel_rfl) hbk (unitReg_I s am ta sa pa am' ta' sa' pa' cm ct cs cp cm' ct' cs' cp' V a0) ?_ ?_ id a0 V ?_
  · intro i hin D a w hnd hdep hI
    obtain ⟨hf, hb, lo, hi, t1, t2, t3, t4, k1, k2, k3, k4, f0, f1, f2, f3, f4⟩ := hI
    rw [hn] at hin
    have hz : a.tmps.size = 31 := hf.size.trans hsz
    have hbs := hb.size
    have rf := Below.refl w.heap.size w
    have K0 : ∀ (d : Nat) (v : Value) (w' : World), 26 ≠ d → Below w.heap.size w w' → D 0 → (a.put (some d) v).eval (.tmp 26) = .agg (shotCells s.cpu (.slice am' s.mem.length cm') (.slice ta' s.trace.length ct') (.slice sa' s.starts.length cs') (.slice pa' s.cpus.length cp') s.jam) := fun d v w' hd hbw h => by have g0 := f0 h; exact ((eval_put_ne hd).trans g0)
    have K1 : ∀ (d : Nat) (v : Value) (w' : World), 27 ≠ d → Below w.heap.size w w' → D 1 → (a.put (some d) v).eval (.tmp 27) = .agg (shotCells s.cpu (.slice am s.mem.length cm) (.slice ta s.trace.length ct) (.slice sa s.starts.length cs) (.slice pa s.cpus.length cp) s.jam) := fun d v w' hd hbw h => by have g0 := f1 h; exact ((eval_put_ne hd).trans g0)
    have K2 : ∀ (d : Nat) (v : Value) (w' : World), 28 ≠ d → Below w.heap.size w w' → D 2 → (a.put (some d) v).eval (.tmp 28) = shotV s.cpu (.slice t1 s.mem.length k1) (.slice t2 s.trace.length k2) (.slice t3 s.starts.length k3) (.slice t4 s.cpus.length k4) s.jam ∧ (ShotOwn w' lo hi (.slice t1 s.mem.length k1) (.slice t2 s.trace.length k2) (.slice t3 s.starts.length k3) (.slice t4 s.cpus.length k4) s) := fun d v w' hd hbw h => by obtain ⟨g0, g1⟩ := f2 h; exact ⟨((eval_put_ne hd).trans g0), (g1.below hbw)⟩
    have K3 : ∀ (d : Nat) (v : Value) (w' : World), 29 ≠ d → Below w.heap.size w w' → D 3 → (a.put (some d) v).eval (.tmp 29) = .bool true ∧ (2 = i ∨ D 2) := fun d v w' hd hbw h => by obtain ⟨g0, g1⟩ := f3 h; exact ⟨((eval_put_ne hd).trans g0), (Or.inr g1)⟩
    have K4 : ∀ (d : Nat) (v : Value) (w' : World), 30 ≠ d → Below w.heap.size w w' → D 4 → (a.put (some d) v).eval (.tmp 30) = .bool false ∧ (2 = i ∨ D 2) := fun d v w' hd hbw h => by obtain ⟨g0, g1⟩ := f4 h; exact ⟨((eval_put_ne hd).trans g0), (Or.inr g1)⟩
    obtain (rfl | rfl | rfl | rfl | rfl) : i = 0 ∨ i = 1 ∨ i = 2 ∨ i = 3 ∨ i = 4 := by omega
    · refine op_load o0 ((hf.eval (by decide)).trans h7) (load_part (hX.below hb) 0 (shotCells s.cpu (.slice am' s.mem.length cm') (.slice ta' s.trace.length ct') (.slice sa' s.starts.length cs') (.slice pa' s.cpus.length cp') s.jam) (by kernel_rfl) (by kernel_rfl) (by kernel_rfl)) ?_
      exact ⟨hf.put (by decide) _, hb, lo, hi, t1, t2, t3, t4, k1, k2, k3, k4, fun _ => eval_put_self (by rw [hz]; decide),
        fun h => K1 _ _ _ (by decide) rf (nr h),
        fun h => K2 _ _ _ (by decide) rf (nr h),
        fun h => K3 _ _ _ (by decide) rf (nr h),
        fun h => K4 _ _ _ (by decide) rf (nr h)⟩
    · refine op_load o1 ((hf.eval (by decide)).trans h2) (load_part (hA.below hb) 0 (shotCells s.cpu (.slice am s.mem.length cm) (.slice ta s.trace.length ct) (.slice sa s.starts.length cs) (.slice pa s.cpus.length cp) s.jam) (by kernel_rfl) (by kernel_rfl) (by kernel_rfl)) ?_
      exact ⟨hf.put (by decide) _, hb, lo, hi, t1, t2, t3, t4, k1, k2, k3, k4, fun h => K0 _ _ _ (by decide) rf (nr h),
        fun _ => eval_put_self (by rw [hz]; decide),
        fun h => K2 _ _ _ (by decide) rf (nr h),
        fun h => K3 _ _ _ (by decide) rf (nr h),
        fun h => K4 _ _ _ (by decide) rf (nr h)⟩
    · have d1 := waits u2_1 hdep
      have e1_0 := f1 d1
      refine op_call o2 (by simp only [List.map_toArray, List.map_cons, List.map_nil, eval_const, e1_0]) rfl ((toShot_own s am ta sa pa cm ct cs cp _ hs (hr.below hb)).mono ?_)
      rintro e w' ⟨m, t, st, p, rfl, hO, hbw⟩
      obtain ⟨u1, l1, u2, l2, u3, l3, u4, l4, rfl, rfl, rfl, rfl, _⟩ := hO.len
      have hbz := hbw.size
      have hb' := below_step hb hbw (Nat.le_refl _)
      refine ⟨_, rfl, ?_⟩
      exact ⟨hf.put (by decide) _, hb', w.heap.size, w'.heap.size, u1, u2, u3, u4, l1, l2, l3, l4, fun h => K0 _ _ _ (by decide) hbw (nr h),
        fun h => K1 _ _ _ (by decide) hbw (nr h),
        fun _ => ⟨eval_put_self (by rw [hz]; decide), hO⟩,
        fun h => by have h' := (nr h); obtain ⟨g0, g1⟩ := f3 h'; exact absurd g1 hnd,
        fun h => by have h' := (nr h); obtain ⟨g0, g1⟩ := f4 h'; exact absurd g1 hnd⟩
    · have d0 := waits u3_0 hdep
      have e0_0 := f0 d0
      have d2 := waits u3_2 hdep
      obtain ⟨e2_0, e2_1⟩ := f2 d2
      refine op_call o3 (by simp only [List.map_toArray, List.map_cons, List.map_nil, eval_const, e0_0, e2_0]) rfl ((eqShot_any s am' ta' sa' pa' t1 t2 t3 t4 cm' ct' cs' cp' k1 k2 k3 k4 _ hs (hx.below hb) (e2_1.rows)).mono ?_)
      rintro e w' ⟨rfl, hbw⟩
      have hbz := hbw.size
      have hb' := below_step hb hbw (Nat.le_refl _)
      refine ⟨_, rfl, ?_⟩
      exact ⟨hf.put (by decide) _, hb', lo, hi, t1, t2, t3, t4, k1, k2, k3, k4, fun h => K0 _ _ _ (by decide) hbw (nr h),
        fun h => K1 _ _ _ (by decide) hbw (nr h),
        fun h => K2 _ _ _ (by decide) hbw (nr h),
        fun _ => ⟨eval_put_self (by rw [hz]; decide), Or.inr d2⟩,
        fun h => K4 _ _ _ (by decide) hbw (nr h)⟩
    · have d3 := waits u4_3 hdep
      obtain ⟨e3_0, e3_1⟩ := f3 d3
      refine wpOp_val (v := .bool false) (w' := w) o4 (fun o ho => by unfold execOp; rw [ho]; dsimp only; simp only [List.map_toArray, List.map_cons, List.map_nil, e3_0, eval_const]; simp [go_sem]) ?_
      exact ⟨hf.put (by decide) _, hb, lo, hi, t1, t2, t3, t4, k1, k2, k3, k4, fun h => K0 _ _ _ (by decide) rf (nr h),
        fun h => K1 _ _ _ (by decide) rf (nr h),
        fun h => K2 _ _ _ (by decide) rf (nr h),
        fun h => K3 _ _ _ (by decide) rf (nr h),
        fun _ => ⟨eval_put_self (by rw [hz]; decide), Or.inr e3_1⟩⟩
  · intro D a w hD hI
    obtain ⟨hf, hb, lo, hi, t1, t2, t3, t4, k1, k2, k3, k4, f0, f1, f2, f3, f4⟩ := hI
    rw [hn] at hD
    have e0_0 := f0 (hD 0 (by decide))
    have e1_0 := f1 (hD 1 (by decide))
    obtain ⟨e2_0, e2_1⟩ := f2 (hD 2 (by decide))
    obtain ⟨e3_0, e3_1⟩ := f3 (hD 3 (by decide))
    obtain ⟨e4_0, e4_1⟩ := f4 (hD 4 (by decide))
    exact hQ a w hf ⟨e4_0, hb⟩
  · exact ⟨FrameIs.refl _ _, (Below.refl _ _).drew, 0, 0, none, none, none, none, 0, 0, 0, 0, fun h => False.elim h, fun h => False.elim h, fun h => False.elim h, fun h => False.elim h, fun h => False.elim h⟩

set_option maxRecDepth 100000 in
set_option maxHeartbeats 4000000 in
theorem walkUnitAt (s : ShotI) (am ta sa pa : Option Addr) (cm ct cs cp : Nat) (i : Int) (w : World) (hi : (Lit.int .i64 i).wf = true) (hs : s.small) (hsum : s.mem.length + s.trace.length + s.starts.length + s.cpus.length ≤ 1048576) (hr : ShotRows w am ta sa pa s) :
    Calls Try.prog 5 #[shotV s.cpu (.slice am s.mem.length cm) (.slice ta s.trace.length ct) (.slice sa s.starts.length cs) (.slice pa s.cpus.length cp) s.jam, .int .i64 i] w fun e w' => e = .returned (.bool true) ∧ Below w.heap.size w w' := by
  have HSZ := fun w => szShot_fits s.cpu am ta sa pa s.mem.length cm s.trace.length ct s.starts.length cs s.cpus.length cp s.jam 1048576 (Nat.le_refl _) hsum w
  have HS := Lib.hid hs
  have HR := Lib.hid hr
  have HI := Lib.hid hi
  obtain ⟨u, hu⟩ : ∃ u, unitAtN s.starts s.trace.length i = u := ⟨_, rfl⟩
  have HU := Lib.hid hu
  clear hs hr hi hu hsum
  have b1 := Below.refl w.heap.size w
  have y1 : BoxN (w.alloc (.cells #[.int .u8 (s.cpu.A : Int), .int .u8 (s.cpu.X : Int), .int .u8 (s.cpu.Y : Int), .int .u8 (s.cpu.S : Int), .int .u16 (s.cpu.PC : Int), .bool s.cpu.N, .bool s.cpu.V, .bool s.cpu.D, .bool s.cpu.I, .bool s.cpu.Z, .bool s.cpu.C, .slice am s.mem.length cm, .slice ta s.trace.length ct, .slice sa s.starts.length cs, .slice pa s.cpus.length cp, .bool s.jam] 52)) w.heap.size 52 #[.int .u8 (s.cpu.A : Int), .int .u8 (s.cpu.X : Int), .int .u8 (s.cpu.Y : Int), .int .u8 (s.cpu.S : Int), .int .u16 (s.cpu.PC : Int), .bool s.cpu.N, .bool s.cpu.V, .bool s.cpu.D, .bool s.cpu.I, .bool s.cpu.Z, .bool s.cpu.C, .slice am s.mem.length cm, .slice ta s.trace.length ct, .slice sa s.starts.length cs, .slice pa s.cpus.length cp, .bool s.jam] := by
    have h := BoxN.new w 52 #[.int .u8 (s.cpu.A : Int), .int .u8 (s.cpu.X : Int), .int .u8 (s.cpu.Y : Int), .int .u8 (s.cpu.S : Int), .int .u16 (s.cpu.PC : Int), .bool s.cpu.N, .bool s.cpu.V, .bool s.cpu.D, .bool s.cpu.I, .bool s.cpu.Z, .bool s.cpu.C, .slice am s.mem.length cm, .slice ta s.trace.length ct, .slice sa s.starts.length cs, .slice pa s.cpus.length cp, .bool s.jam]
    simpa only [World.size_alloc] using h
  have a2 := alw w (.cells #[.int .u8 (s.cpu.A : Int), .int .u8 (s.cpu.X : Int), .int .u8 (s.cpu.Y : Int), .int .u8 (s.cpu.S : Int), .int .u16 (s.cpu.PC : Int), .bool s.cpu.N, .bool s.cpu.V, .bool s.cpu.D, .bool s.cpu.I, .bool s.cpu.Z, .bool s.cpu.C, .slice am s.mem.length cm, .slice ta s.trace.length ct, .slice sa s.starts.length cs, .slice pa s.cpus.length cp, .bool s.jam] 52)
  have b3 := bstep b1 a2
  clear a2
  have z4 : Hid ((w.alloc (.cells #[.int .u8 (s.cpu.A : Int), .int .u8 (s.cpu.X : Int), .int .u8 (s.cpu.Y : Int), .int .u8 (s.cpu.S : Int), .int .u16 (s.cpu.PC : Int), .bool s.cpu.N, .bool s.cpu.V, .bool s.cpu.D, .bool s.cpu.I, .bool s.cpu.Z, .bool s.cpu.C, .slice am s.mem.length cm, .slice ta s.trace.length ct, .slice sa s.starts.length cs, .slice pa s.cpus.length cp, .bool s.jam] 52)).heap.size = w.heap.size + 1) := Lib.hid (by simp only [World.size_alloc])
  go_enter Try.func5, Try.ntmps5
  have ld5 : (Instr.loadAt 52 (.pointer (some ⟨w.heap.size, 0, none⟩))).run Try.prog (w.alloc (.cells #[.int .u8 (s.cpu.A : Int), .int .u8 (s.cpu.X : Int), .int .u8 (s.cpu.Y : Int), .int .u8 (s.cpu.S : Int), .int .u16 (s.cpu.PC : Int), .bool s.cpu.N, .bool s.cpu.V, .bool s.cpu.D, .bool s.cpu.I, .bool s.cpu.Z, .bool s.cpu.C, .slice am s.mem.length cm, .slice ta s.trace.length ct, .slice sa s.starts.length cs, .slice pa s.cpus.length cp, .bool s.jam] 52)) = .ok (.agg #[.int .u8 (s.cpu.A : Int), .int .u8 (s.cpu.X : Int), .int .u8 (s.cpu.Y : Int), .int .u8 (s.cpu.S : Int), .int .u16 (s.cpu.PC : Int), .bool s.cpu.N, .bool s.cpu.V, .bool s.cpu.D, .bool s.cpu.I, .bool s.cpu.Z, .bool s.cpu.C, .slice am s.mem.length cm, .slice ta s.trace.length ct, .slice sa s.starts.length cs, .slice pa s.cpus.length cp, .bool s.jam]) (w.alloc (.cells #[.int .u8 (s.cpu.A : Int), .int .u8 (s.cpu.X : Int), .int .u8 (s.cpu.Y : Int), .int .u8 (s.cpu.S : Int), .int .u16 (s.cpu.PC : Int), .bool s.cpu.N, .bool s.cpu.V, .bool s.cpu.D, .bool s.cpu.I, .bool s.cpu.Z, .bool s.cpu.C, .slice am s.mem.length cm, .slice ta s.trace.length ct, .slice sa s.starts.length cs, .slice pa s.cpus.length cp, .bool s.jam] 52)) := load_part y1 0 #[.int .u8 (s.cpu.A : Int), .int .u8 (s.cpu.X : Int), .int .u8 (s.cpu.Y : Int), .int .u8 (s.cpu.S : Int), .int .u16 (s.cpu.PC : Int), .bool s.cpu.N, .bool s.cpu.V, .bool s.cpu.D, .bool s.cpu.I, .bool s.cpu.Z, .bool s.cpu.C, .slice am s.mem.length cm, .slice ta s.trace.length ct, .slice sa s.starts.length cs, .slice pa s.cpus.length cp, .bool s.jam] (by kernel_rfl) (by kernel_rfl) (by kernel_rfl)
  go_wp2_with ((refine wpList_load_run ld5 rfl rfl rfl ?_))
  clear b1 ld5
  refine (HSZ _).mono ?_
  rintro e w6 ⟨q, hq0, rfl, d7⟩
  replace d7 : Below (w.alloc (.cells #[.int .u8 (s.cpu.A : Int), .int .u8 (s.cpu.X : Int), .int .u8 (s.cpu.Y : Int), .int .u8 (s.cpu.S : Int), .int .u16 (s.cpu.PC : Int), .bool s.cpu.N, .bool s.cpu.V, .bool s.cpu.D, .bool s.cpu.I, .bool s.cpu.Z, .bool s.cpu.C, .slice am s.mem.length cm, .slice ta s.trace.length ct, .slice sa s.starts.length cs, .slice pa s.cpus.length cp, .bool s.jam] 52)).heap.size (w.alloc (.cells #[.int .u8 (s.cpu.A : Int), .int .u8 (s.cpu.X : Int), .int .u8 (s.cpu.Y : Int), .int .u8 (s.cpu.S : Int), .int .u16 (s.cpu.PC : Int), .bool s.cpu.N, .bool s.cpu.V, .bool s.cpu.D, .bool s.cpu.I, .bool s.cpu.Z, .bool s.cpu.C, .slice am s.mem.length cm, .slice ta s.trace.length ct, .slice sa s.starts.length cs, .slice pa s.cpus.length cp, .bool s.jam] 52)) w6 := d7
  have hqn : ¬ q < 0 := by omega
  clear hq0
  have b8 := bstep b3 d7
  have p9 := y1.below d7
  have z10 := Lib.hid d7.size
  clear b3 y1 d7
  have ld20 : (Instr.loadAt 52 (.pointer (some ⟨w.heap.size, 0, none⟩))).run Try.prog w6 = .ok (.agg #[.int .u8 (s.cpu.A : Int), .int .u8 (s.cpu.X : Int), .int .u8 (s.cpu.Y : Int), .int .u8 (s.cpu.S : Int), .int .u16 (s.cpu.PC : Int), .bool s.cpu.N, .bool s.cpu.V, .bool s.cpu.D, .bool s.cpu.I, .bool s.cpu.Z, .bool s.cpu.C, .slice am s.mem.length cm, .slice ta s.trace.length ct, .slice sa s.starts.length cs, .slice pa s.cpus.length cp, .bool s.jam]) w6 := load_part p9 0 #[.int .u8 (s.cpu.A : Int), .int .u8 (s.cpu.X : Int), .int .u8 (s.cpu.Y : Int), .int .u8 (s.cpu.S : Int), .int .u16 (s.cpu.PC : Int), .bool s.cpu.N, .bool s.cpu.V, .bool s.cpu.D, .bool s.cpu.I, .bool s.cpu.Z, .bool s.cpu.C, .slice am s.mem.length cm, .slice ta s.trace.length ct, .slice sa s.starts.length cs, .slice pa s.cpus.length cp, .bool s.jam] (by kernel_rfl) (by kernel_rfl) (by kernel_rfl)
  go_wp2_with ((refine wpList_load_run ld20 rfl rfl rfl ?_))
  clear ld20
  refine (toShot_own s am ta sa pa cm ct cs cp _ HS.out (HR.out.below b8)).mono ?_
  rintro e w21 ⟨m_, t_, s_, p_, rfl, o11, d22⟩
  obtain ⟨x12, x13, x14, x15, x16, x17, x18, x19, rfl, rfl, rfl, rfl, _⟩ := o11.len
  have b23 := bstep b8 d22
  have p24 := p9.below d22
  have z25 := Lib.hid d22.size
  clear b8 p9 d22
  go_wp2_with fail
  refine (specUnitAt_any s.cpu _ _ _ _ s.trace.length _ _ s.starts s.jam i _ HS.out.2.1 HS.out.2.2.1 HI.out o11.rows.starts).mono ?_
  rintro e w26 ⟨rfl, d27⟩
  rw [HU.out]
  have b28 := bstep b23 d27
  have p29 := p24.below d27
  have s30 := o11.below d27
  have z31 := Lib.hid d27.size
  clear b23 p24 o11 d27
  have ld41 : (Instr.loadAt 52 (.pointer (some ⟨w.heap.size, 0, none⟩))).run Try.prog w26 = .ok (.agg #[.int .u8 (s.cpu.A : Int), .int .u8 (s.cpu.X : Int), .int .u8 (s.cpu.Y : Int), .int .u8 (s.cpu.S : Int), .int .u16 (s.cpu.PC : Int), .bool s.cpu.N, .bool s.cpu.V, .bool s.cpu.D, .bool s.cpu.I, .bool s.cpu.Z, .bool s.cpu.C, .slice am s.mem.length cm, .slice ta s.trace.length ct, .slice sa s.starts.length cs, .slice pa s.cpus.length cp, .bool s.jam]) w26 := load_part p29 0 #[.int .u8 (s.cpu.A : Int), .int .u8 (s.cpu.X : Int), .int .u8 (s.cpu.Y : Int), .int .u8 (s.cpu.S : Int), .int .u16 (s.cpu.PC : Int), .bool s.cpu.N, .bool s.cpu.V, .bool s.cpu.D, .bool s.cpu.I, .bool s.cpu.Z, .bool s.cpu.C, .slice am s.mem.length cm, .slice ta s.trace.length ct, .slice sa s.starts.length cs, .slice pa s.cpus.length cp, .bool s.jam] (by kernel_rfl) (by kernel_rfl) (by kernel_rfl)
  go_wp2_with ((refine wpList_load_run ld41 rfl rfl rfl ?_))
  clear s30 ld41
  refine (toShot_own s am ta sa pa cm ct cs cp _ HS.out (HR.out.below b28)).mono ?_
  rintro e w42 ⟨m_, t_, s_, p_, rfl, o32, d43⟩
  obtain ⟨x33, x34, x35, x36, x37, x38, x39, x40, rfl, rfl, rfl, rfl, _⟩ := o32.len
  have b44 := bstep b28 d43
  have p45 := p29.below d43
  have z46 := Lib.hid d43.size
  clear b28 p29 d43
  have y47 : BoxN (w42.alloc (.cells #[.int .u8 (s.cpu.A : Int), .int .u8 (s.cpu.X : Int), .int .u8 (s.cpu.Y : Int), .int .u8 (s.cpu.S : Int), .int .u16 (s.cpu.PC : Int), .bool s.cpu.N, .bool s.cpu.V, .bool s.cpu.D, .bool s.cpu.I, .bool s.cpu.Z, .bool s.cpu.C, .slice x33 s.mem.length x34, .slice x35 s.trace.length x36, .slice x37 s.starts.length x38, .slice x39 s.cpus.length x40, .bool s.jam] 35)) w42.heap.size 35 #[.int .u8 (s.cpu.A : Int), .int .u8 (s.cpu.X : Int), .int .u8 (s.cpu.Y : Int), .int .u8 (s.cpu.S : Int), .int .u16 (s.cpu.PC : Int), .bool s.cpu.N, .bool s.cpu.V, .bool s.cpu.D, .bool s.cpu.I, .bool s.cpu.Z, .bool s.cpu.C, .slice x33 s.mem.length x34, .slice x35 s.trace.length x36, .slice x37 s.starts.length x38, .slice x39 s.cpus.length x40, .bool s.jam] := by
    have h := BoxN.new w42 35 #[.int .u8 (s.cpu.A : Int), .int .u8 (s.cpu.X : Int), .int .u8 (s.cpu.Y : Int), .int .u8 (s.cpu.S : Int), .int .u16 (s.cpu.PC : Int), .bool s.cpu.N, .bool s.cpu.V, .bool s.cpu.D, .bool s.cpu.I, .bool s.cpu.Z, .bool s.cpu.C, .slice x33 s.mem.length x34, .slice x35 s.trace.length x36, .slice x37 s.starts.length x38, .slice x39 s.cpus.length x40, .bool s.jam]
    simpa only [World.size_alloc] using h
  have a48 := alw w42 (.cells #[.int .u8 (s.cpu.A : Int), .int .u8 (s.cpu.X : Int), .int .u8 (s.cpu.Y : Int), .int .u8 (s.cpu.S : Int), .int .u16 (s.cpu.PC : Int), .bool s.cpu.N, .bool s.cpu.V, .bool s.cpu.D, .bool s.cpu.I, .bool s.cpu.Z, .bool s.cpu.C, .slice x33 s.mem.length x34, .slice x35 s.trace.length x36, .slice x37 s.starts.length x38, .slice x39 s.cpus.length x40, .bool s.jam] 35)
  have b49 := bstep b44 a48
  replace p45 := p45.below a48
  replace o32 := o32.below a48
  clear a48
  have z50 : Hid ((w42.alloc (.cells #[.int .u8 (s.cpu.A : Int), .int .u8 (s.cpu.X : Int), .int .u8 (s.cpu.Y : Int), .int .u8 (s.cpu.S : Int), .int .u16 (s.cpu.PC : Int), .bool s.cpu.N, .bool s.cpu.V, .bool s.cpu.D, .bool s.cpu.I, .bool s.cpu.Z, .bool s.cpu.C, .slice x33 s.mem.length x34, .slice x35 s.trace.length x36, .slice x37 s.starts.length x38, .slice x39 s.cpus.length x40, .bool s.jam] 35)).heap.size = w42.heap.size + 1) := Lib.hid (by simp only [World.size_alloc])
  have ld51 : (Instr.loadAt 35 (.pointer (some ⟨w42.heap.size, 0, none⟩))).run Try.prog (w42.alloc (.cells #[.int .u8 (s.cpu.A : Int), .int .u8 (s.cpu.X : Int), .int .u8 (s.cpu.Y : Int), .int .u8 (s.cpu.S : Int), .int .u16 (s.cpu.PC : Int), .bool s.cpu.N, .bool s.cpu.V, .bool s.cpu.D, .bool s.cpu.I, .bool s.cpu.Z, .bool s.cpu.C, .slice x33 s.mem.length x34, .slice x35 s.trace.length x36, .slice x37 s.starts.length x38, .slice x39 s.cpus.length x40, .bool s.jam] 35)) = .ok (.agg #[.int .u8 (s.cpu.A : Int), .int .u8 (s.cpu.X : Int), .int .u8 (s.cpu.Y : Int), .int .u8 (s.cpu.S : Int), .int .u16 (s.cpu.PC : Int), .bool s.cpu.N, .bool s.cpu.V, .bool s.cpu.D, .bool s.cpu.I, .bool s.cpu.Z, .bool s.cpu.C, .slice x33 s.mem.length x34, .slice x35 s.trace.length x36, .slice x37 s.starts.length x38, .slice x39 s.cpus.length x40, .bool s.jam]) (w42.alloc (.cells #[.int .u8 (s.cpu.A : Int), .int .u8 (s.cpu.X : Int), .int .u8 (s.cpu.Y : Int), .int .u8 (s.cpu.S : Int), .int .u16 (s.cpu.PC : Int), .bool s.cpu.N, .bool s.cpu.V, .bool s.cpu.D, .bool s.cpu.I, .bool s.cpu.Z, .bool s.cpu.C, .slice x33 s.mem.length x34, .slice x35 s.trace.length x36, .slice x37 s.starts.length x38, .slice x39 s.cpus.length x40, .bool s.jam] 35)) := load_part y47 0 #[.int .u8 (s.cpu.A : Int), .int .u8 (s.cpu.X : Int), .int .u8 (s.cpu.Y : Int), .int .u8 (s.cpu.S : Int), .int .u16 (s.cpu.PC : Int), .bool s.cpu.N, .bool s.cpu.V, .bool s.cpu.D, .bool s.cpu.I, .bool s.cpu.Z, .bool s.cpu.C, .slice x33 s.mem.length x34, .slice x35 s.trace.length x36, .slice x37 s.starts.length x38, .slice x39 s.cpus.length x40, .bool s.jam] (by kernel_rfl) (by kernel_rfl) (by kernel_rfl)
  go_wp2_with ((refine wpList_load_run ld51 rfl rfl rfl ?_))
  clear b44 ld51
  refine (implUnitAt_any s.cpu _ _ _ _ s.trace.length _ _ s.starts s.jam i _ HS.out.2.1 HS.out.2.2.1 HI.out o32.rows.starts).mono ?_
  rintro e w52 ⟨rfl, d53⟩
  replace d53 : Below (w42.alloc (.cells #[.int .u8 (s.cpu.A : Int), .int .u8 (s.cpu.X : Int), .int .u8 (s.cpu.Y : Int), .int .u8 (s.cpu.S : Int), .int .u16 (s.cpu.PC : Int), .bool s.cpu.N, .bool s.cpu.V, .bool s.cpu.D, .bool s.cpu.I, .bool s.cpu.Z, .bool s.cpu.C, .slice x33 s.mem.length x34, .slice x35 s.trace.length x36, .slice x37 s.starts.length x38, .slice x39 s.cpus.length x40, .bool s.jam] 35)).heap.size (w42.alloc (.cells #[.int .u8 (s.cpu.A : Int), .int .u8 (s.cpu.X : Int), .int .u8 (s.cpu.Y : Int), .int .u8 (s.cpu.S : Int), .int .u16 (s.cpu.PC : Int), .bool s.cpu.N, .bool s.cpu.V, .bool s.cpu.D, .bool s.cpu.I, .bool s.cpu.Z, .bool s.cpu.C, .slice x33 s.mem.length x34, .slice x35 s.trace.length x36, .slice x37 s.starts.length x38, .slice x39 s.cpus.length x40, .bool s.jam] 35)) w52 := d53
  rw [HU.out]
  have b54 := bstep b49 d53
  have p55 := p45.below d53
  have p56 := y47.below d53
  have s57 := o32.below d53
  have z58 := Lib.hid d53.size
  clear b49 p45 y47 o32 d53
  go_wp2_with fail
  go_cut [30] from 26 to 29 (fun v W => v = .bool false ∧ Below w52.heap.size w52 W)
  case first =>
    rename_i J K' hJ hK
    refine unitReg s am ta sa pa x33 x35 x37 x39 cm ct cs cp x34 x36 x38 x40 HS.out _ _ w52 p55 p56 (HR.out.below b54) s57.rows _ rfl rfl rfl _ ?_ _ (by kernel_rfl) _
    intro a' W hf ht
    exact hK _ _ (Met.intro (hJ _ _ ⟨a'.eval (.tmp 26), a'.eval (.tmp 27), a'.eval (.tmp 28), a'.eval (.tmp 29), a'.eval (.tmp 30), ht, hf.eq.trans (by kernel_rfl)⟩))
  obtain ⟨rfl, d⟩ := hcut
  have bz := bstep b54 d
  go_wp2
  go_ret
  exact ⟨rfl, bz⟩

end Go.Proofs.Ytckfdbjjjgfbfaa
